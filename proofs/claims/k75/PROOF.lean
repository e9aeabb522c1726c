import PyProof.Rows.All
import Wide.All
import OpenK.AllK
import Wide.FinOn
import HandS.Deep
import HandS.Defaults
import HandS.DictComp
import HandS.DictTup
import HandS.Exc
import HandS.ExcIs
import HandS.ExcOwn
import HandS.FStr
import HandS.ForMost
import HandS.Head0
import HandS.Head1
import HandS.Head2
import HandS.HeadEnd
import HandS.HeadHook1
import HandS.HeadHook2
import HandS.HeadHook3
import HandS.IsInst
import HandS.Iter
import HandS.More
import HandS.RaiseMore
import HandS.Rev
import HandS.RevRange
import HandS.SortInts
import HandS.SortRule
import HandS.Style
import HandS.TryMany
import HandS.TryOnly
import HandS.TupAny
import HandS.TupMul
import HandS.WordsDict
import HandS.WordsExc
import HandS.Zip
import KE.DatumOrd
import KE.GoesEnum
import KE.GoesMore
import KE.KItemsList
import KE.KStateDown
import Lean
import PyProof.ExcBaseAll.ValueError
import PySem.Challenge.RW_doppelganger_k75_clients_refused
set_option Elab.async false
set_option linter.all false
set_option maxRecDepth 100000
set_option maxHeartbeats 0
/-! Dg0: rules that the hand layer lacks: tuples: + with an empty one first, * by any number. -/
namespace Dg
open PySem PySem.Spec PyProof.Rows L2
theorem tuple_addW0 (l b : Addr) (items items2 : Array Value) (n n2 : Nat) (dd dd2 : Option Addr) (sl sl2 : Array (Option Value)) (hc0 : items.isEmpty = true) :
    Meets (Builtin.«tuple.__add__» ⟨[.ref l, .ref b], []⟩) (fun _ R s => s.heap.get? l = some { cls := .type "tuple", dict := dd, data := .seq items n, slots := sl } ∧ s.heap.get? b = some { cls := .type "tuple", dict := dd2, data := .seq items2 n2, slots := sl2 } ∧ R (.ok (.ret (Value.ref b))) s) :=
  .of_wp fun prog w A R s h => by
    obtain ⟨hp, g, d, tk, os⟩ := s
    obtain ⟨hl, hb, h⟩ := h
    have f1 := AutoSeq1.idx_int; have f2 := AutoSeq1.sub_tuple_tuple; have f3 := AutoSeq1.sub_list_list; have f4 := AutoSeq1.sub_tuple_list; have f5 := AutoSeq1.sub_list_tuple
    wp_walk using wpAny_loadPart' hl, wpAny_loadPart' hb
    exact ⟨_, rfl, h⟩
theorem tuple_mulW1 (l : Addr) (items : Array Value) (n : Nat) (dd : Option Addr) (sl : Array (Option Value)) (x : Int) (u : Tok) (c0 : (decide (x < -(2 ^ 63)) || decide (x ≥ 2 ^ 63)) = false) (c1 : (items.isEmpty || x == 1) = true) :
    Meets (Builtin.«tuple.__mul__» ⟨[.ref l, .int x u], []⟩) (fun _ R s => s.heap.get? l = some { cls := .type "tuple", dict := dd, data := .seq items n, slots := sl } ∧ R (.ok (.ret (Value.ref l))) s) :=
  .of_wp fun prog w A R s h => by
    obtain ⟨hp, g, d, tk, os⟩ := s
    obtain ⟨hl, h⟩ := h
    have f1 := AutoSeq1.idx_int
    wp_walk using wpAny_loadPart' hl
    repeat (first
      | (refine wpAny_ite_false (decide_eq_false (by rw [c0]; exact Bool.false_ne_true)) ?_; wp_walk using wpAny_loadPart' hl)
      | (refine wpAny_ite_true c1 ?_; wp_walk using wpAny_loadPart' hl))
    exact ⟨_, rfl, h⟩
theorem tuple_mulW0 (l : Addr) (items : Array Value) (n : Nat) (dd : Option Addr) (sl : Array (Option Value)) (x : Int) (u : Tok) (c0 : (decide (x < -(2 ^ 63)) || decide (x ≥ 2 ^ 63)) = false) (c1 : (items.isEmpty || x == 1) = false) (c2 : (decide (x ≤ 0) || items.isEmpty) = true) :
    Meets (Builtin.«tuple.__mul__» ⟨[.ref l, .int x u], []⟩) (fun _ R s => s.heap.get? l = some { cls := .type "tuple", dict := dd, data := .seq items n, slots := sl } ∧
      R (.ok (.ret (Value.ref s.heap.objs.size))) { s with heap := s.heap.push { cls := Value.type "tuple", data := Data.seq #[] }, toks := s.toks }) :=
  .of_wp fun prog w A R s h => by
    obtain ⟨hp, g, d, tk, os⟩ := s
    obtain ⟨hl, h⟩ := h
    have f1 := AutoSeq1.idx_int
    wp_walk using wpAny_loadPart' hl
    repeat (first
      | (refine wpAny_ite_false (decide_eq_false (by rw [c0]; exact Bool.false_ne_true)) ?_; wp_walk using wpAny_loadPart' hl)
      | (refine wpAny_ite_false (decide_eq_false (by rw [c1]; exact Bool.false_ne_true)) ?_; wp_walk using wpAny_loadPart' hl)
      | (refine wpAny_ite_true c2 ?_; wp_walk using wpAny_loadPart' hl))
    exact ⟨_, rfl, h⟩
section
variable {X : Cx}
theorem op_cat0 : OpR X (binaryOp .Add) (fun x y H Q => ∃ a b ys, x = .ref a ∧ y = .ref b ∧ SqT X.K H a [] ∧ SqT X.K H b ys ∧ Q (.ref b) H) := by
  intro pins s σ H x y v u Q I rx ry h
  obtain ⟨a, b, ys, rfl, rfl, ha, hb, q⟩ := h
  cases rx
  cases ry
  obtain ⟨its, r1, ⟨⟨cls, dd, data, sl⟩, ho, hc, n, hd⟩, _⟩ := I.tuple ha
  obtain ⟨its2, r2, ⟨⟨cls2, dd2, data2, sl2⟩, ho2, hc2, n2, hd2⟩, _⟩ := I.tuple hb
  simp only at hc hd hc2 hd2
  subst hc hd hc2 hd2
  cases r1
  exact concat_meets ⟨_, ho, rfl⟩ ⟨_, ho2, rfl⟩ noFill_tuple_add seq_tuple_add PySem.F.slot_tuple_add PySem.F.entry_tuple_add (PySem.F.args_tuple_add_2 _ _)
    (tuple_addW0 a b _ _ n n2 dd dd2 sl sl2 rfl) ⟨ho, ho2, ⟨.ref b, H, I, rfl, q⟩⟩
theorem op_repT1 : OpR X (binaryOp .Mult) (fun x y H Q => ∃ l k xs, x = .ref l ∧ y = .int k ∧ SqT X.K H l xs ∧ (xs = [] ∨ k = 1) ∧ -(2 ^ 62) ≤ k ∧ k < 2 ^ 62 ∧ Q (.ref l) H) := by
  intro pins s σ H x y v u Q I rx ry h
  obtain ⟨l, k, xs, rfl, rfl, hT, hne, h1, h2, q⟩ := h
  cases rx
  obtain ⟨t, rfl⟩ := ry
  obtain ⟨its, r, ⟨⟨cls, dd, data, sl⟩, ho, hc, n, hd⟩, hs⟩ := I.tuple hT
  simp only at hc hd
  subst hc hd
  have c0 : (decide (k < -(2 ^ 63)) || decide (k ≥ 2 ^ 63)) = false := by
    rw [decide_eq_false (by omega), decide_eq_false (by omega)] <;> rfl
  have c1 : (its.toArray.isEmpty || k == 1) = true := by
    rcases hne with e | e
    · subst e; cases r; rfl
    · subst e; simp
  exact wpAny_binaryOp_repeat_ref (T := "tuple") (U := "int") (by decide) ⟨_, ho, rfl⟩ (fun s' => typeIs_int s' k t) noFill_tuple_mul F.fills_int_mul F.slot_int_rmul repeat_tuple F.slot_int_index.lookup
    (call_meets F.slot_int_rmul (typeIs_int s k t) F.entry_int_rmul (F.args_int_rmul_2 _ _) (int_rmul_tuple k t l its.toArray n dd sl)
      ⟨ho, rfl, ⟨_, ho, rfl⟩, call_meets F.slot_tuple_mul ⟨_, ho, rfl⟩ F.entry_tuple_mul (F.args_tuple_mul_2 _ _) (tuple_mulW1 l its.toArray n dd sl k t c0 c1) ⟨ho, ⟨.ref l, H, I, rfl, q⟩⟩⟩)
theorem op_repT0 : OpR X (binaryOp .Mult) (fun x y H Q => ∃ l k xs, x = .ref l ∧ y = .int k ∧ SqT X.K H l xs ∧ xs ≠ [] ∧ -(2 ^ 62) ≤ k ∧ k ≤ 0 ∧ ∀ p, H p = none → Q (.ref p) (upd H p (.tup []))) := by
  intro pins s σ H x y v u Q I rx ry h
  obtain ⟨l, k, xs, rfl, rfl, hT, hne, h1, h2, q⟩ := h
  cases rx
  obtain ⟨t, rfl⟩ := ry
  obtain ⟨its, r, ⟨⟨cls, dd, data, sl⟩, ho, hc, n, hd⟩, hs⟩ := I.tuple hT
  simp only at hc hd
  subst hc hd
  have hn : its ≠ [] := fun e => hne (by
    have := r.length
    rw [e] at this
    exact List.eq_nil_of_length_eq_zero this)
  have c0 : (decide (k < -(2 ^ 63)) || decide (k ≥ 2 ^ 63)) = false := by
    rw [decide_eq_false (by omega), decide_eq_false (by omega)] <;> rfl
  have hi : its.toArray.isEmpty = false := by
    cases its with
    | nil => exact absurd rfl hn
    | cons a b => rfl
  have c1 : (its.toArray.isEmpty || k == 1) = false := by
    rw [hi, Bool.false_or]
    exact beq_eq_false_iff_ne.mpr (by omega)
  have c2 : (decide (k ≤ 0) || its.toArray.isEmpty) = true := by
    rw [decide_eq_true h2]; rfl
  exact wpAny_binaryOp_repeat_ref (T := "tuple") (U := "int") (by decide) ⟨_, ho, rfl⟩ (fun s' => typeIs_int s' k t) noFill_tuple_mul F.fills_int_mul F.slot_int_rmul repeat_tuple F.slot_int_index.lookup
    (call_meets F.slot_int_rmul (typeIs_int s k t) F.entry_int_rmul (F.args_int_rmul_2 _ _) (int_rmul_tuple k t l its.toArray n dd sl)
      ⟨ho, rfl, ⟨_, ho, rfl⟩, call_meets F.slot_tuple_mul ⟨_, ho, rfl⟩ F.entry_tuple_mul (F.args_tuple_mul_2 _ _) (tuple_mulW0 l its.toArray n dd sl k t c0 c1 c2)
        ⟨ho, ⟨.ref s.heap.objs.size, _, I.laid (t' := s.toks) (o := .tup []) (fun b ob q => Heap.get?_push_of_some _ q) (Nat.le_refl _) ⟨by simp, [], .nil, IsTup.new _ _⟩, rfl, q _ (I.hok.fresh (Nat.le_refl _))⟩⟩⟩)
end
end Dg
/-! Dg1: values, cells, how they lie in the heap, and outcomes. -/
namespace Dg
open PySem PySem.Spec PyProof.Rows L2

/-! ### values and memory of the mirror -/
inductive U where
  | non | bl (b : Bool) | int (i : Int) | str (s : Str) | tup (xs : List U) | ref (i : Nat)
  /-- a list that is never changed (the script) -/
  | frl (xs : List U)
inductive Cell where
  | lst (xs : List U)
  | dct (kvs : List (Key × U))
  /-- a dict that is being walked -/
  | fdc (kvs : List (Key × U))
  /-- a dict whose keys are tuples of ints -/
  | dtt (kvs : List (List Int × U))
  /-- one whose keys are tuples, while it is walked -/
  | fdt (kvs : List (List Key × U))
  /-- an instance of the class: its attributes -/
  | obj (c : Str) (fs : List (Str × U))
abbrev Mem := List Cell
abbrev Slots := List (Option U)
inductive Res (α : Type) where
  | ok (a : α) (m : Mem)
  | ex (c : Str) (m : Mem)
  | bad
def Res.bind {α β : Type} (r : Res α) (k : α → Mem → Res β) : Res β := match r with
  | .ok a m => k a m
  | .ex c m => .ex c m
  | .bad => .bad
inductive Out where
  | nx (s : Slots) (m : Mem)
  | rt (u : U) (m : Mem)
  | bk (s : Slots) (m : Mem)
  | ct (s : Slots) (m : Mem)
  | ex (c : Str) (s : Slots) (m : Mem)
  | bad
abbrev FE := Slots → Mem → Res U
abbrev FT := Slots → Mem → Res Bool
abbrev FA := Slots → Mem → Res (List U)
abbrev FS := Slots → Mem → Out

/-! ### how a value lies -/
/-- a list that stays as it is -/
def FrL (K : PySem.W.Frag) (H : Hp) (a : Addr) (xs : List V) : Prop :=
  (∃ o, H a = some (.frz o (.lst xs))) ∨
    ∃ (o : Obj) (its : Array Value) (n : Nat), K.lookup a = some o ∧ o.cls = .type "list" ∧ o.dict = none ∧ o.data = .seq its n ∧ its.size ≤ sizeLine ∧ Vals xs its.toList
theorem FrL.sq {K : PySem.W.Frag} {H : Hp} {a : Addr} {xs : List V} (h : FrL K H a xs) : SqL K H a xs := by
  rcases h with ⟨o, h⟩ | h
  · exact .inl (.inr ⟨o, h⟩)
  · exact .inr h
mutual
inductive RepV (K : PySem.W.Frag) (H : Hp) (ρ : List Addr) : U → V → Prop
  | non : RepV K H ρ .non .non
  | bl {b : Bool} : RepV K H ρ (.bl b) (.bl b)
  | int {i : Int} : RepV K H ρ (.int i) (.int i)
  | str {s : Str} : PyData.strOk s = true → RepV K H ρ (.str s) (.str s)
  | tup {us : List U} {a : Addr} {vs : List V} : SqT K H a vs → RepVs K H ρ us vs → RepV K H ρ (.tup us) (.ref a)
  | ref {i : Nat} {a : Addr} : ρ[i]? = some a → RepV K H ρ (.ref i) (.ref a)
  | frl {us : List U} {a : Addr} {vs : List V} : FrL K H a vs → RepVs K H ρ us vs → RepV K H ρ (.frl us) (.ref a)
inductive RepVs (K : PySem.W.Frag) (H : Hp) (ρ : List Addr) : List U → List V → Prop
  | nil : RepVs K H ρ [] []
  | cons {u : U} {us : List U} {v : V} {vs : List V} : RepV K H ρ u v → RepVs K H ρ us vs → RepVs K H ρ (u :: us) (v :: vs)
end
/-- tuples and what is locked stay -/
def TX (H H' : Hp) : Prop := (∀ a xs, Rd H a (.tup xs) → Rd H' a (.tup xs)) ∧ ∀ a o u, H a = some (.frz o u) → H' a = some (.frz o u)
theorem TX.refl (H : Hp) : TX H H := ⟨fun _ _ h => h, fun _ _ _ h => h⟩
theorem TX.trans {H H1 H2 : Hp} (a : TX H H1) (b : TX H1 H2) : TX H H2 := ⟨fun x o h => b.1 x o (a.1 x o h), fun x o u h => b.2 x o u (a.2 x o u h)⟩
/-- what may be changed: no tuple, nothing locked -/
def Sft (o : HO) : Prop := (∀ xs, o ≠ .tup xs) ∧ ∀ z u, o ≠ .frz z u
theorem TX.put {H : Hp} {p : Addr} {o : HO} (h : ∀ o', H p = some o' → Sft o') : TX H (upd H p o) := ⟨fun a xs r => by
  rcases r with r | ⟨z, r⟩
  · have ne : a ≠ p := fun e => (h _ (e ▸ r)).1 xs rfl
    exact .inl (by rw [upd_ne ne]; exact r)
  · have ne : a ≠ p := fun e => (h _ (e ▸ r)).2 z _ rfl
    exact .inr ⟨z, by rw [upd_ne ne]; exact r⟩, fun a z u r => by
  have ne : a ≠ p := fun e => (h _ (e ▸ r)).2 z u rfl
  rw [upd_ne ne]; exact r⟩
theorem TX.new {H : Hp} {p : Addr} {o : HO} (h : H p = none) : TX H (upd H p o) := TX.put (fun o' r => by rw [h] at r; cases r)
/-- tuples and locked lists stay: what values need -/
def TV (H H' : Hp) : Prop := (∀ a xs, Rd H a (.tup xs) → Rd H' a (.tup xs)) ∧ ∀ a o xs, H a = some (.frz o (.lst xs)) → H' a = some (.frz o (.lst xs))
theorem TX.tv {H H' : Hp} (t : TX H H') : TV H H' := ⟨t.1, fun a o xs h => t.2 a o _ h⟩
theorem TV.seq {K : PySem.W.Frag} {H H' : Hp} {a : Addr} {xs : List V} (t : TV H H') (h : SqT K H a xs) : SqT K H' a xs := by
  rcases h with h | h
  · exact .inl (t.1 a xs h)
  · exact .inr h
theorem TV.frl {K : PySem.W.Frag} {H H' : Hp} {a : Addr} {xs : List V} (t : TV H H') (h : FrL K H a xs) : FrL K H' a xs := by
  rcases h with ⟨o, h⟩ | h
  · exact .inl ⟨o, t.2 a o _ h⟩
  · exact .inr h
theorem TX.seq {K : PySem.W.Frag} {H H' : Hp} {a : Addr} {xs : List V} (t : TX H H') (h : SqT K H a xs) : SqT K H' a xs := by
  rcases h with h | h
  · exact .inl (t.1 a xs h)
  · exact .inr h
theorem TX.frl {K : PySem.W.Frag} {H H' : Hp} {a : Addr} {xs : List V} (t : TX H H') (h : FrL K H a xs) : FrL K H' a xs := by
  rcases h with ⟨o, h⟩ | h
  · exact .inl ⟨o, t.2 a o _ h⟩
  · exact .inr h
def Ext (ρ ρ' : List Addr) : Prop := ∃ l, ρ' = ρ ++ l
theorem Ext.refl (ρ : List Addr) : Ext ρ ρ := ⟨[], by simp⟩
theorem Ext.trans {a b c : List Addr} (h : Ext a b) (g : Ext b c) : Ext a c := by
  obtain ⟨l, rfl⟩ := h
  obtain ⟨r, rfl⟩ := g
  exact ⟨l ++ r, by simp⟩
theorem Ext.get {ρ ρ' : List Addr} (h : Ext ρ ρ') {i : Nat} {a : Addr} (e : ρ[i]? = some a) : ρ'[i]? = some a := by
  obtain ⟨l, rfl⟩ := h
  have : i < ρ.length := by
    rw [List.getElem?_eq_some_iff] at e
    exact e.1
  rw [List.getElem?_append_left this]
  exact e
theorem Ext.snoc (ρ : List Addr) (p : Addr) : Ext ρ (ρ ++ [p]) := ⟨[p], rfl⟩
section
variable {K : PySem.W.Frag} {H H' : Hp} {ρ ρ' : List Addr}
mutual
theorem RepV.monoV (t : TV H H') (e : Ext ρ ρ') : ∀ {u : U} {v : V}, RepV K H ρ u v → RepV K H' ρ' u v
  | _, _, .non => .non
  | _, _, .bl => .bl
  | _, _, .int => .int
  | _, _, .str h => .str h
  | _, _, .tup h r => .tup (t.seq h) (RepVs.monoV t e r)
  | _, _, .ref h => .ref (e.get h)
  | _, _, .frl h r => .frl (t.frl h) (RepVs.monoV t e r)
theorem RepVs.monoV (t : TV H H') (e : Ext ρ ρ') : ∀ {us : List U} {vs : List V}, RepVs K H ρ us vs → RepVs K H' ρ' us vs
  | _, _, .nil => .nil
  | _, _, .cons h r => .cons (RepV.monoV t e h) (RepVs.monoV t e r)
end
theorem RepV.mono (t : TX H H') (e : Ext ρ ρ') {u : U} {v : V} (h : RepV K H ρ u v) : RepV K H' ρ' u v := h.monoV t.tv e
theorem RepVs.mono (t : TX H H') (e : Ext ρ ρ') {us : List U} {vs : List V} (h : RepVs K H ρ us vs) : RepVs K H' ρ' us vs := h.monoV t.tv e
theorem RepVs.length : ∀ {us : List U} {vs : List V}, RepVs K H ρ us vs → us.length = vs.length
  | _, _, .nil => rfl
  | _, _, .cons _ r => congrArg (· + 1) (RepVs.length r)
theorem RepVs.get : ∀ {us : List U} {vs : List V} {i : Nat} {u : U}, RepVs K H ρ us vs → us[i]? = some u → ∃ v, vs[i]? = some v ∧ RepV K H ρ u v
  | _, _, _, _, .nil, e => by simp at e
  | _, _, 0, _, .cons h _, e => by simp at e; subst e; exact ⟨_, rfl, h⟩
  | _, _, i + 1, u, .cons _ r, e => by
    obtain ⟨v, h1, h2⟩ := RepVs.get (i := i) (u := u) r (by simpa using e)
    exact ⟨v, by simpa using h1, h2⟩
theorem RepVs.append : ∀ {us ws : List U} {vs xs : List V}, RepVs K H ρ us vs → RepVs K H ρ ws xs → RepVs K H ρ (us ++ ws) (vs ++ xs)
  | _, _, _, _, .nil, s => s
  | _, _, _, _, .cons h r, s => .cons h (RepVs.append r s)
theorem RepVs.set {u : U} {v : V} (h : RepV K H ρ u v) : ∀ {us : List U} {vs : List V} (i : Nat), RepVs K H ρ us vs → RepVs K H ρ (us.set i u) (vs.set i v)
  | _, _, _, .nil => .nil
  | _, _, 0, .cons _ r => .cons h r
  | _, _, i + 1, .cons q r => .cons q (RepVs.set h i r)
theorem RepVs.take : ∀ {us : List U} {vs : List V} (n : Nat), RepVs K H ρ us vs → RepVs K H ρ (us.take n) (vs.take n)
  | _, _, 0, _ => .nil
  | _, _, _ + 1, .nil => .nil
  | _, _, n + 1, .cons h r => .cons h (RepVs.take n r)
theorem RepVs.drop : ∀ {us : List U} {vs : List V} (n : Nat), RepVs K H ρ us vs → RepVs K H ρ (us.drop n) (vs.drop n)
  | _, _, 0, r => r
  | _, _, _ + 1, .nil => .nil
  | _, _, n + 1, .cons _ r => RepVs.drop n r
theorem RepVs.one {u : U} {v : V} (h : RepV K H ρ u v) : RepVs K H ρ [u] [v] := .cons h .nil
theorem RepVs.reverse {us : List U} {vs : List V} (r : RepVs K H ρ us vs) : RepVs K H ρ us.reverse vs.reverse := by
  induction us generalizing vs with
  | nil => cases r; exact .nil
  | cons u us ih =>
    cases r with
    | cons h r => rw [List.reverse_cons, List.reverse_cons]; exact (ih r).append (.one h)
theorem RepVs.ints : ∀ {is : List Int} {vs : List V}, RepVs K H ρ (is.map U.int) vs → vs = is.map V.int
  | [], _, r => by cases r; rfl
  | i :: is, _, r => by
    cases r with
    | cons h r => cases h; rw [RepVs.ints r]; rfl
theorem RepVs.ofInts : ∀ (is : List Int), RepVs K H ρ (is.map U.int) (is.map V.int)
  | [] => .nil
  | _ :: is => .cons .int (RepVs.ofInts is)
theorem RepVs.strs : ∀ {is : List Str} {vs : List V}, RepVs K H ρ (is.map U.str) vs → vs = is.map V.str
  | [], _, r => by cases r; rfl
  | i :: is, _, r => by
    cases r with
    | cons h r => cases h; rw [RepVs.strs r]; rfl
theorem RepVs.ofStrs : ∀ (is : List Str), (∀ x ∈ is, PyData.strOk x = true) → RepVs K H ρ (is.map U.str) (is.map V.str)
  | [], _ => .nil
  | x :: is, h => .cons (.str (h x (by simp))) (RepVs.ofStrs is fun y hy => h y (by simp [hy]))
theorem RepVs.strsOk : ∀ {is : List Str} {vs : List V}, RepVs K H ρ (is.map U.str) vs → ∀ x ∈ is, PyData.strOk x = true
  | [], _, _ => by simp
  | i :: is, _, r => by
    cases r with
    | cons h r =>
      cases h with
      | str h =>
        intro x hx
        rcases List.mem_cons.mp hx with e | e
        · exact e ▸ h
        · exact RepVs.strsOk r x e
theorem RepVs.bls : ∀ {is : List Bool} {vs : List V}, RepVs K H ρ (is.map U.bl) vs → vs = is.map V.bl
  | [], _, r => by cases r; rfl
  | i :: is, _, r => by
    cases r with
    | cons h r => cases h; rw [RepVs.bls r]; rfl
end

theorem nodup_inj {α : Type} {l : List α} (h : l.Nodup) {i j : Nat} (hi : i < l.length) (hj : j < l.length) (e : l[i] = l[j]) : i = j := by
  have p := List.pairwise_iff_getElem.mp h
  rcases Nat.lt_trichotomy i j with q | q | q
  · exact absurd e (p i j hi hj q)
  · exact q
  · exact absurd e.symm (p j i hj hi q)
/-- a dict at a whose keys are tuples of ints: each key, where it stands, the value -/
def tiE (x : List Int × Addr × Value) : DictEntry := ⟨reduceHash (Builtin.Tuple.tupleHashOf (x.1.map hashInt)), .ref x.2.1, x.2.2⟩
def TiRaw (a : Addr) (xs : List (List Int × Addr × V)) (h : Heap) : Prop := (a == sysModules) = false ∧ xs.length ≤ sizeLine ∧ (xs.map (·.1)).Nodup ∧ ∃ ys : List (List Int × Addr × Value),
  Paired (fun p q => p.1 = q.1 ∧ p.2.1 = q.2.1 ∧ RelV p.2.2 q.2.2) xs ys ∧ ∃ o es ep, h.get? a = some o ∧ o.ExactDict ∧ o.data = .dict es ep ∧ es.toList = ys.map tiE
def TiD (a : Addr) (xs : List (List Int × Addr × V)) : HO := .ext (TiRaw a xs)
theorem TiRaw.ok {P : Program} {w : World} {H : Hp} {h : Heap} {a : Addr} {xs : List (List Int × Addr × V)} (r : TiRaw a xs h) : ObjOk P w H h a (TiD a xs) := by
  refine ⟨r, ?_, fun h1 h2 r1 k => ?_⟩
  · obtain ⟨_, _, _, ys, _, o, es, ep, e, _⟩ := r
    exact ⟨o, e⟩
  · obtain ⟨q, z, n, ys, p, o, es, ep, e, c⟩ := r1
    exact ⟨q, z, n, ys, p, o, es, ep, k o e, c⟩
/-! ### how the memory lies -/
def RepC (K : PySem.W.Frag) (H : Hp) (ρ : List Addr) : Cell → Addr → Prop
  | .lst us, a => ∃ vs, H a = some (.lst vs) ∧ RepVs K H ρ us vs
  | .dct kus, a => ∃ kvs, H a = some (.dK kvs) ∧ kvs.map (·.1) = kus.map (·.1) ∧ RepVs K H ρ (kus.map (·.2)) (kvs.map (·.2))
  | .fdc kus, a => ∃ o kvs, H a = some (.frz o (.dK kvs)) ∧ kvs.map (·.1) = kus.map (·.1) ∧ RepVs K H ρ (kus.map (·.2)) (kvs.map (·.2))
  | .dtt kus, a => ∃ xs, H a = some (TiD a xs) ∧ (∀ p ∈ xs, SqT K H p.2.1 (p.1.map V.int)) ∧ xs.map (·.1) = kus.map (·.1) ∧ RepVs K H ρ (kus.map (·.2)) (xs.map (·.2.2))
  | .fdt kus, a => ∃ o kvs, H a = some (.frz o (.dT kvs)) ∧ kvs.map (·.1) = kus.map (·.1) ∧ RepVs K H ρ (kus.map (·.2)) (kvs.map (·.2))
  | .obj c fs, a => ∃ dx fvs, H a = some (.ins (He.ga K c) dx fvs) ∧ fvs.map (·.1) = fs.map (·.1) ∧ RepVs K H ρ (fs.map (·.2)) (fvs.map (·.2))
structure RepM (K : PySem.W.Frag) (H : Hp) (ρ : List Addr) (μ : Mem) : Prop where
  len : ρ.length = μ.length
  nd : ρ.Nodup
  cell : ∀ (i : Nat) (c : Cell), μ[i]? = some c → ∃ a, ρ[i]? = some a ∧ RepC K H ρ c a
section
variable {K : PySem.W.Frag} {H H' : Hp} {ρ ρ' : List Addr} {μ : Mem}
def Cell.soft : Cell → Bool
  | .fdc _ => false
  | .fdt _ => false
  | _ => true
theorem RepC.there {c : Cell} {a : Addr} (h : RepC K H ρ c a) : ∃ o, H a = some o ∧ (c.soft = true → Sft o) := by
  cases c with
  | lst us => obtain ⟨vs, e, _⟩ := h; exact ⟨_, e, by simp [Sft]⟩
  | dct us => obtain ⟨vs, e, _⟩ := h; exact ⟨_, e, by simp [Sft]⟩
  | fdc us => obtain ⟨o, vs, e, _⟩ := h; exact ⟨_, e, fun h => nomatch h⟩
  | dtt us => obtain ⟨vs, e, _⟩ := h; exact ⟨_, e, by simp [Sft, TiD]⟩
  | fdt us => obtain ⟨o, vs, e, _⟩ := h; exact ⟨_, e, fun h => nomatch h⟩
  | obj c us => obtain ⟨o, vs, e, _⟩ := h; exact ⟨_, e, by simp [Sft]⟩
theorem RepC.tx {c : Cell} {a : Addr} {o' : HO} (h : RepC K H ρ c a) (hs : c.soft = true) : TX H (upd H a o') := by
  obtain ⟨o, e, h1⟩ := h.there
  exact TX.put fun o2 r => by rw [e] at r; cases r; exact h1 hs
theorem RepC.monoV {c : Cell} {a : Addr} (t : TV H H') (x : Ext ρ ρ') (e : H' a = H a) (h : RepC K H ρ c a) : RepC K H' ρ' c a := by
  cases c with
  | lst us => obtain ⟨vs, q, r⟩ := h; exact ⟨vs, e.trans q, r.monoV t x⟩
  | dct us => obtain ⟨vs, q, w, r⟩ := h; exact ⟨vs, e.trans q, w, r.monoV t x⟩
  | fdc us => obtain ⟨o, vs, q, w, r⟩ := h; exact ⟨o, vs, e.trans q, w, r.monoV t x⟩
  | dtt us => obtain ⟨vs, q, z, w, r⟩ := h; exact ⟨vs, e.trans q, fun p hp => t.seq (z p hp), w, r.monoV t x⟩
  | fdt us => obtain ⟨o, vs, q, w, r⟩ := h; exact ⟨o, vs, e.trans q, w, r.monoV t x⟩
  | obj c us => obtain ⟨o, vs, q, w, r⟩ := h; exact ⟨o, vs, e.trans q, w, r.monoV t x⟩
theorem RepC.mono {c : Cell} {a : Addr} (t : TX H H') (x : Ext ρ ρ') (e : H' a = H a) (h : RepC K H ρ c a) : RepC K H' ρ' c a := h.monoV t.tv x e
theorem RepM.at (m : RepM K H ρ μ) {i : Nat} {a : Addr} (e : ρ[i]? = some a) : ∃ c, μ[i]? = some c ∧ RepC K H ρ c a := by
  have hi : i < ρ.length := (List.getElem?_eq_some_iff.mp e).1
  have hj : i < μ.length := m.len ▸ hi
  obtain ⟨a', e', r⟩ := m.cell i _ (List.getElem?_eq_getElem hj)
  rw [e] at e'; cases e'
  exact ⟨_, List.getElem?_eq_getElem hj, r⟩
theorem RepM.get (m : RepM K H ρ μ) {i : Nat} {a : Addr} {c : Cell} (e : ρ[i]? = some a) (h : μ[i]? = some c) : RepC K H ρ c a := by
  obtain ⟨a', e', r⟩ := m.cell i c h
  rw [e] at e'; cases e'
  exact r
theorem RepM.lst (m : RepM K H ρ μ) {i : Nat} {a : Addr} {us : List U} (e : ρ[i]? = some a) (h : μ[i]? = some (.lst us)) : ∃ vs, H a = some (.lst vs) ∧ RepVs K H ρ us vs := m.get e h
theorem RepM.here (m : RepM K H ρ μ) {a : Addr} (h : a ∈ ρ) : H a ≠ none := by
  obtain ⟨i, hi, e⟩ := List.getElem_of_mem h
  obtain ⟨c, _, r⟩ := m.at (i := i) (a := a) (by rw [List.getElem?_eq_getElem hi, e])
  obtain ⟨o, q, _⟩ := r.there
  rw [q]; simp
theorem RepM.notin (m : RepM K H ρ μ) {p : Addr} (h : H p = none) : p ∉ ρ := fun q => m.here q h
/-- the heap has more, the memory is the same -/
theorem RepM.keep (m : RepM K H ρ μ) (t : TX H H') (k : ∀ a ∈ ρ, H' a = H a) : RepM K H' ρ μ := ⟨m.len, m.nd, fun i c h => by
  obtain ⟨a, e, r⟩ := m.cell i c h
  exact ⟨a, e, r.mono t (Ext.refl _) (k a (List.mem_of_getElem? e))⟩⟩
theorem RepM.temp (m : RepM K H ρ μ) {p : Addr} {o : HO} (h : H p = none) : RepM K (upd H p o) ρ μ := m.keep (TX.new h) fun a ha => upd_ne fun e => m.notin h (e ▸ ha)
/-- a new cell -/
theorem RepM.new (m : RepM K H ρ μ) {p : Addr} {o : HO} {c : Cell} (h : H p = none) (r : RepC K (upd H p o) (ρ ++ [p]) c p) : RepM K (upd H p o) (ρ ++ [p]) (μ ++ [c]) := by
  refine ⟨by simp [m.len], ?_, fun i d e => ?_⟩
  · rw [List.nodup_append]
    exact ⟨m.nd, by simp, fun a ha b hb => by simp at hb; subst hb; exact fun e => m.notin h (e ▸ ha)⟩
  · by_cases hi : i < μ.length
    · rw [List.getElem?_append_left hi] at e
      obtain ⟨a, e1, r1⟩ := m.cell i d e
      exact ⟨a, (Ext.snoc ρ p).get e1, r1.mono (TX.new h) (Ext.snoc ρ p) (upd_ne fun q => m.notin h (q ▸ List.mem_of_getElem? e1))⟩
    · have hi2 : i = μ.length := by
        have := (List.getElem?_eq_some_iff.mp e).1
        simp at this
        omega
      subst hi2
      rw [List.getElem?_append_right (Nat.le_refl _)] at e
      simp at e
      subst e
      exact ⟨p, by rw [← m.len, List.getElem?_append_right (Nat.le_refl _)]; simp, r⟩
/-- a cell is changed -/
theorem RepM.putV (m : RepM K H ρ μ) {i : Nat} {a : Addr} {o : HO} {c : Cell} (t : TV H (upd H a o)) (e : ρ[i]? = some a) (r : RepC K (upd H a o) ρ c a) : RepM K (upd H a o) ρ (μ.set i c) := by
  obtain ⟨c0, e0, r0⟩ := m.at e
  refine ⟨by simp [m.len], m.nd, fun j d h => ?_⟩
  by_cases hj : i = j
  · subst hj
    rw [List.getElem?_set_self (List.getElem?_eq_some_iff.mp e0).1] at h
    cases h
    exact ⟨a, e, r⟩
  · rw [List.getElem?_set_ne hj] at h
    obtain ⟨b, e1, r1⟩ := m.cell j d h
    refine ⟨b, e1, r1.monoV t (Ext.refl _) (upd_ne fun q => hj ?_)⟩
    subst q
    obtain ⟨h1, h2⟩ := List.getElem?_eq_some_iff.mp e
    obtain ⟨h3, h4⟩ := List.getElem?_eq_some_iff.mp e1
    exact nodup_inj m.nd h1 h3 (h2.trans h4.symm)
end

/-! ### how the slots lie -/
structure RepS (K : PySem.W.Frag) (H : Hp) (ρ : List Addr) (s : Slots) (σ : L2.St) : Prop where
  len : s.length = σ.length
  get : ∀ (i : Nat) (u : U), s[i]? = some (some u) → ∃ v, σ[i]? = some (some v) ∧ RepV K H ρ u v
theorem RepS.mono {K : PySem.W.Frag} {H H' : Hp} {ρ ρ' : List Addr} {s : Slots} {σ : L2.St} (t : TX H H') (x : Ext ρ ρ') (h : RepS K H ρ s σ) : RepS K H' ρ' s σ :=
  ⟨h.len, fun i u e => by obtain ⟨v, q, r⟩ := h.get i u e; exact ⟨v, q, r.mono t x⟩⟩
theorem RepS.set {K : PySem.W.Frag} {H : Hp} {ρ : List Addr} {s : Slots} {σ : L2.St} {i : Nat} {u : U} {v : V} (h : RepS K H ρ s σ) (r : RepV K H ρ u v) : RepS K H ρ (s.set i (some u)) (σ.set i (some v)) := by
  refine ⟨by simp [h.len], fun j w e => ?_⟩
  by_cases hj : i = j
  · subst hj
    have hl : i < s.length := by
      have := (List.getElem?_eq_some_iff.mp e).1
      simpa using this
    rw [List.getElem?_set_self hl] at e
    cases e
    exact ⟨v, List.getElem?_set_self (h.len ▸ hl), r⟩
  · rw [List.getElem?_set_ne hj] at e
    obtain ⟨x, q, r'⟩ := h.get j w e
    exact ⟨x, by rw [List.getElem?_set_ne hj]; exact q, r'⟩

/-! ### a step of the heap -/
structure Stp (K : PySem.W.Frag) (ρ : List Addr) (H : Hp) (ρ' : List Addr) (H' : Hp) (μ' : Mem) : Prop where
  ext : Ext ρ ρ'
  tx : TX H H'
  mem : RepM K H' ρ' μ'
section
variable {K : PySem.W.Frag} {H H1 H2 : Hp} {ρ ρ1 ρ2 : List Addr} {μ μ1 μ2 : Mem}
theorem Stp.refl (m : RepM K H ρ μ) : Stp K ρ H ρ H μ := ⟨Ext.refl _, TX.refl _, m⟩
theorem Stp.trans (a : Stp K ρ H ρ1 H1 μ1) (b : Stp K ρ1 H1 ρ2 H2 μ2) : Stp K ρ H ρ2 H2 μ2 := ⟨a.ext.trans b.ext, a.tx.trans b.tx, b.mem⟩
theorem Stp.temp (m : RepM K H ρ μ) {p : Addr} {o : HO} (h : H p = none) : Stp K ρ H ρ (upd H p o) μ := ⟨Ext.refl _, TX.new h, m.temp h⟩
theorem Stp.new (m : RepM K H ρ μ) {p : Addr} {o : HO} {c : Cell} (h : H p = none) (r : RepC K (upd H p o) (ρ ++ [p]) c p) : Stp K ρ H (ρ ++ [p]) (upd H p o) (μ ++ [c]) := ⟨Ext.snoc ρ p, TX.new h, m.new h r⟩
theorem RepM.put (m : RepM K H ρ μ) {i : Nat} {a : Addr} {o : HO} {c c0 : Cell} (e : ρ[i]? = some a) (h0 : μ[i]? = some c0) (hs : c0.soft = true) (r : RepC K (upd H a o) ρ c a) : RepM K (upd H a o) ρ (μ.set i c) :=
  m.putV ((m.get e h0).tx hs).tv e r
theorem Stp.put (m : RepM K H ρ μ) {i : Nat} {a : Addr} {o : HO} {c c0 : Cell} (e : ρ[i]? = some a) (h0 : μ[i]? = some c0) (hs : c0.soft = true) (r : RepC K (upd H a o) ρ c a) : Stp K ρ H ρ (upd H a o) (μ.set i c) :=
  ⟨Ext.refl _, (m.get e h0).tx hs, m.put e h0 hs r⟩
theorem Stp.v (t : Stp K ρ H ρ1 H1 μ1) {u : U} {v : V} (h : RepV K H ρ u v) : RepV K H1 ρ1 u v := h.mono t.tx t.ext
theorem Stp.vs (t : Stp K ρ H ρ1 H1 μ1) {u : List U} {v : List V} (h : RepVs K H ρ u v) : RepVs K H1 ρ1 u v := h.mono t.tx t.ext
theorem Stp.s (t : Stp K ρ H ρ1 H1 μ1) {u : Slots} {v : L2.St} (h : RepS K H ρ u v) : RepS K H1 ρ1 u v := h.mono t.tx t.ext
end

/-! ### what is wanted behind -/
abbrev RelT (α β : Type) := PySem.W.Frag → Hp → List Addr → α → β → Prop
def relV : RelT U V := RepV
def relVs : RelT (List U) (List V) := RepVs
def relB : RelT Bool Bool := fun _ _ _ a b => a = b
def relO : RelT (Option Int) (Option Int) := fun _ _ _ a b => a = b
def Post {α β : Type} (X : Cx) (W : WX) (σ : L2.St) (rel : RelT α β) (ρ : List Addr) (H : Hp) (r : Res α) (Q : β → Hp → Prop) : Prop := match r with
  | .ok u μ' => ∀ v H' ρ', Stp X.K ρ H ρ' H' μ' → rel X.K H' ρ' u v → Q v H'
  | .ex c μ' => ∀ cls H' ρ', Stp X.K ρ H ρ' H' μ' → X.mg c = some cls → W cls none σ H'
  | .bad => False
theorem Post.bind {α β γ δ : Type} {X : Cx} {W : WX} {σ : L2.St} {rel1 : RelT α β} {rel2 : RelT γ δ} {ρ : List Addr} {H : Hp} {r : Res α} {k : α → Mem → Res γ} {Q : δ → Hp → Prop} {Q1 : β → Hp → Prop}
    (h : Post X W σ rel2 ρ H (r.bind k) Q) (hk : ∀ a μ1 x H1 ρ1, Stp X.K ρ H ρ1 H1 μ1 → rel1 X.K H1 ρ1 a x → Post X W σ rel2 ρ1 H1 (k a μ1) Q → Q1 x H1) : Post X W σ rel1 ρ H r Q1 := by
  cases r with
  | ok a m =>
    intro v H' ρ' t q
    refine hk a m v H' ρ' t q ?_
    have h' : Post X W σ rel2 ρ H (k a m) Q := h
    generalize k a m = z at h'
    cases z with
    | ok b m2 => exact fun v2 H2 ρ2 t2 q2 => h' v2 H2 ρ2 (t.trans t2) q2
    | ex c m2 => exact fun cls H2 ρ2 t2 e => h' cls H2 ρ2 (t.trans t2) e
    | bad => exact h'
  | ex c m => exact h
  | bad => exact h
theorem Post.ok {α β : Type} {X : Cx} {W : WX} {σ : L2.St} {rel : RelT α β} {ρ ρ' : List Addr} {H H' : Hp} {u : α} {v : β} {μ' : Mem} {Q : β → Hp → Prop} (h : Post X W σ rel ρ H (.ok u μ') Q) (t : Stp X.K ρ H ρ' H' μ') (r : rel X.K H' ρ' u v) : Q v H' := h v H' ρ' t r

/-! ### an expression, a test, arguments -/
def WE (X : Cx) (e : Expr) : TE := fun σ H Q => ∃ t, PE X e t ∧ t σ H Q
theorem pe_w {X : Cx} {e : Expr} : PE X e (WE X e) := ⟨fun pins s σ H Q I ⟨_, h, q⟩ => h.run pins s σ H Q I q⟩
def WT (X : Cx) (e : Expr) : TT := fun σ H Q => ∃ t, PT X e t ∧ t σ H Q
theorem pt_w {X : Cx} {e : Expr} : PT X e (WT X e) := ⟨fun pins s σ H Q I ⟨_, h, q⟩ => h.run pins s σ H Q I q⟩
def WA (X : Cx) (es : List Expr) : TA := fun σ H Q => ∃ t, PA X es t ∧ t σ H Q
theorem pa_w {X : Cx} {es : List Expr} : PA X es (WA X es) := ⟨fun pos pins s σ H Q I ⟨_, h, q⟩ => h.run pos pins s σ H Q I q⟩
def OpW (X : Cx) (f : Value → Value → Sem Value) : R2 := fun x y H Q => ∃ r, OpR X f r ∧ r x y H Q
theorem op_w {X : Cx} {f : Value → Value → Sem Value} : OpR X f (OpW X f) := fun pins s σ H x y v u Q I rx ry ⟨_, h, q⟩ => h pins s σ H x y v u Q I rx ry q
def IxW (X : Cx) : R2 := fun x y H Q => ∃ r, IxR X r ∧ r x y H Q
theorem ix_w {X : Cx} : IxR X (IxW X) := fun value slice pins s σ H x y v u Q I rx ry ⟨_, h, q⟩ hs => h value slice pins s σ H x y v u Q I rx ry q hs

def CE (X : Cx) (W : WX) (e : Expr) (m : FE) : Prop := ∀ ρ μ s σ H Q, RepS X.K H ρ s σ → RepM X.K H ρ μ → Post X W σ relV ρ H (m s μ) Q → WE X e σ H Q
def CT (X : Cx) (W : WX) (e : Expr) (m : FT) : Prop := ∀ ρ μ s σ H Q, RepS X.K H ρ s σ → RepM X.K H ρ μ → Post X W σ relB ρ H (m s μ) Q → WT X e σ H Q
def CA (X : Cx) (W : WX) (es : List Expr) (m : FA) : Prop := ∀ ρ μ s σ H Q, RepS X.K H ρ s σ → RepM X.K H ρ μ → Post X W σ relVs ρ H (m s μ) Q → WA X es σ H Q

/-- what holds of a context: nothing is handled, k calls have room, W takes what is raised -/
structure Good (X : Cx) (W : WX) (k : Nat) : Prop where
  calm : X.calm = true
  room : Room k X.A
  tk : Takes X W
  po : PassesOwn (model X.prog X.w) X.A X.env X.xe

section
variable {X : Cx} {W : WX} {k : Nat}
/-! names and constants -/
def fVar (i : Nat) : FE := fun s μ => match s[i]? with
  | some (some u) => .ok u μ
  | _ => .bad
theorem ce_var (i : Nat) {x : Str} {pos : Pos} (hN : X.N[i]? = some x := by rfl) (hv : Vis X.env.scope x := by first | exact Or.inl rfl | exact Or.inr (Or.inl rfl) | exact Or.inr (Or.inr rfl)) (hd : (x == ("__debug__" : Str)) = false := by decide)
    (hcd : (x == ("__classdict__" : Str)) = false := by decide) : CE X W (.Name x pos) (fVar i) := by
  intro ρ μ s σ H Q hs hm h
  refine ⟨tVar i, pe_var hN hv hd hcd, ?_⟩
  unfold fVar at h
  cases e : s[i]? with
  | none => rw [e] at h; exact h.elim
  | some o =>
    cases o with
    | none => rw [e] at h; exact h.elim
    | some u =>
      rw [e] at h
      obtain ⟨v, q, r⟩ := hs.get i u e
      exact ⟨v, q, h.ok (Stp.refl hm) r⟩
def fC (u : U) : FE := fun _ μ => .ok u μ
theorem ce_int {i : Int} {j : Nat} {pos : Pos} : CE X W (.Constant (.int i) j pos) (fC (.int i)) := fun ρ μ s σ H Q hs hm h => ⟨_, pe_int, h.ok (Stp.refl hm) .int⟩
theorem ce_bl {b : Bool} {j : Nat} {pos : Pos} : CE X W (.Constant (.bool b) j pos) (fC (.bl b)) := fun ρ μ s σ H Q hs hm h => ⟨_, pe_bl, h.ok (Stp.refl hm) .bl⟩
theorem ce_non {j : Nat} {pos : Pos} : CE X W (.Constant .none j pos) (fC .non) := fun ρ μ s σ H Q hs hm h => ⟨_, pe_non, h.ok (Stp.refl hm) .non⟩
theorem ce_str {x : Str} {j : Nat} {pos : Pos} (hx : PyData.strOk x = true := by decide +kernel) : CE X W (.Constant (.str x) j pos) (fC (.str x)) := fun ρ μ s σ H Q hs hm h => ⟨_, pe_str, h.ok (Stp.refl hm) (.str hx)⟩
/-- a constant of the module -/
theorem ce_glob {x : Str} {u : U} {v : V} {z : Value} {pos : Pos} (hg : Gl X x) (hm : X.mg x = some z) (r : RelV v z) (q : ∀ H ρ, RepV X.K H ρ u v) (hd : (x == ("__debug__" : Str)) = false := by decide) : CE X W (.Name x pos) (fC u) :=
  fun ρ μ s σ H Q hs hm' h => ⟨_, pe_glob hg hm r hd, h.ok (Stp.refl hm') (q H ρ)⟩

/-! two-place operations -/
def fOp (f : U → U → Mem → Res U) (a b : FE) : FE := fun s μ => (a s μ).bind fun u μ1 => (b s μ1).bind fun w μ2 => f u w μ2
def OpS (X : Cx) (W : WX) (g : Value → Value → Sem Value) (f : U → U → Mem → Res U) : Prop := ∀ ρ μ σ H u w x y Q, RepM X.K H ρ μ → RepV X.K H ρ u x → RepV X.K H ρ w y → Post X W σ relV ρ H (f u w μ) Q → OpW X g x y H Q
theorem ce_op {op : Operator} {a b : Expr} {f : U → U → Mem → Res U} {ma mb : FE} {pos : Pos} (ho : OpS X W (binaryOp op) f) (ha : CE X W a ma) (hb : CE X W b mb) : CE X W (.BinOp a op b pos) (fOp f ma mb) := by
  intro ρ μ s σ H Q hs hm h
  refine ⟨_, pe_op op_w pe_w pe_w, ?_⟩
  refine ha ρ μ s σ H _ hs hm (h.bind fun u μ1 x H1 ρ1 t1 r1 h1 => ?_)
  refine hb ρ1 μ1 s σ H1 _ (t1.s hs) t1.mem (h1.bind fun w μ2 y H2 ρ2 t2 r2 h2 => ?_)
  exact ho ρ2 μ2 σ H2 u w x y Q t2.mem (t2.v r1) r2 h2
theorem ce_cmp {op : CmpOp} {a b : Expr} {f : U → U → Mem → Res U} {ma mb : FE} {pos : Pos} (ho : OpS X W (compareOp op) f) (ha : CE X W a ma) (hb : CE X W b mb) (hm0 : behindInMarks op b = false) : CE X W (.Compare a [op] [b] pos) (fOp f ma mb) := by
  intro ρ μ s σ H Q hs hm h
  refine ⟨_, pe_cmpR op_w pe_w pe_w hm0, ?_⟩
  refine ha ρ μ s σ H _ hs hm (h.bind fun u μ1 x H1 ρ1 t1 r1 h1 => ?_)
  refine hb ρ1 μ1 s σ H1 _ (t1.s hs) t1.mem (h1.bind fun w μ2 y H2 ρ2 t2 r2 h2 => ?_)
  exact ho ρ2 μ2 σ H2 u w x y Q t2.mem (t2.v r1) r2 h2
end
end Dg
/-! Dg2: operators, comparisons, tests, displays, calls of built-ins by value. -/
namespace Dg
open PySem PySem.Spec PyProof.Rows L2

def lim : Nat := 16777216
theorem lim_le {n : Nat} (h : n ≤ lim) : n ≤ sizeLine := h
theorem lim_lt {n : Nat} (h : n < lim) : n < sizeLine := h

/-! ### data of a value (for ==) -/
mutual
def toD (g : Nat → Option PyData) : U → Option PyData
  | .non => some .none
  | .bl b => some (.bool b)
  | .int i => some (.int i)
  | .str s => some (.str s)
  | .tup us => (toDs g us).map .tuple
  | .ref i => g i
  | .frl us => (toDs g us).map .list
def toDs (g : Nat → Option PyData) : List U → Option (List PyData)
  | [] => some []
  | u :: us => match toD g u, toDs g us with
    | some d, some ds => some (d :: ds)
    | _, _ => none
end
def refD (μ : Mem) : Nat → Nat → Option PyData
  | 0, _ => none
  | n + 1, i => match μ[i]? with
    | some (.lst us) => (toDs (refD μ n) us).map .list
    | _ => none
def datU (μ : Mem) (u : U) : Option PyData := toD (refD μ 6) u

def DOk (K : PySem.W.Frag) (H : Hp) (ρ : List Addr) (g : Nat → Option PyData) : Prop := ∀ i a d, ρ[i]? = some a → g i = some d → Dp K H (.ref a) d ∧ d.canLay0 = true
section
variable {K : PySem.W.Frag} {H : Hp} {ρ : List Addr} {μ : Mem} {g : Nat → Option PyData}
mutual
theorem toD_ok (hg : DOk K H ρ g) : ∀ (u : U) (v : V) (d : PyData), RepV K H ρ u v → toD g u = some d → Dp K H v d ∧ d.canLay0 = true
  | .non, _, _, h, e => by
    cases h
    simp only [toD, Option.some.injEq] at e
    subst e
    exact ⟨.non, rfl⟩
  | .bl b, _, _, h, e => by
    cases h
    simp only [toD, Option.some.injEq] at e
    subst e
    exact ⟨.bl _, rfl⟩
  | .int i, _, _, h, e => by
    cases h
    simp only [toD, Option.some.injEq] at e
    subst e
    exact ⟨.int _, rfl⟩
  | .str s, _, _, h, e => by
    cases h with
    | str hs =>
      simp only [toD, Option.some.injEq] at e
      subst e
      exact ⟨.str _, by simpa [PyData.canLay0] using hs⟩
  | .tup us, _, _, h, e => by
    cases h with
    | tup hs hr =>
      simp only [toD, Option.map_eq_some_iff] at e
      obtain ⟨ds, e1, rfl⟩ := e
      obtain ⟨h1, h2⟩ := toDs_ok hg us _ ds hr e1
      exact ⟨.tup hs h1, by simpa [PyData.canLay0] using h2⟩
  | .ref i, _, _, h, e => by
    cases h with
    | ref hr =>
      simp only [toD] at e
      exact hg i _ _ hr e
  | .frl us, _, _, h, e => by
    cases h with
    | frl hs hr =>
      simp only [toD, Option.map_eq_some_iff] at e
      obtain ⟨ds, e1, rfl⟩ := e
      obtain ⟨h1, h2⟩ := toDs_ok hg us _ ds hr e1
      exact ⟨.lst hs.sq h1, by simpa [PyData.canLay0] using h2⟩
theorem toDs_ok (hg : DOk K H ρ g) : ∀ (us : List U) (vs : List V) (ds : List PyData), RepVs K H ρ us vs → toDs g us = some ds → DpAll K H vs ds ∧ PyData.canLayAll0 ds = true
  | [], _, _, h, e => by
    cases h
    simp only [toDs, Option.some.injEq] at e
    subst e
    exact ⟨.nil, rfl⟩
  | u :: us, _, _, h, e => by
    cases h with
    | cons h1 h2 =>
      simp only [toDs] at e
      cases e1 : toD g u with
      | none => rw [e1] at e; cases e
      | some d =>
        cases e2 : toDs g us with
        | none => rw [e1, e2] at e; cases e
        | some ds =>
          rw [e1, e2] at e
          cases e
          obtain ⟨a1, a2⟩ := toD_ok hg u _ d h1 e1
          obtain ⟨b1, b2⟩ := toDs_ok hg us _ ds h2 e2
          exact ⟨.cons a1 b1, by simp [PyData.canLayAll0, a2, b2]⟩
end
theorem refD_ok (m : RepM K H ρ μ) : ∀ n, DOk K H ρ (refD μ n)
  | 0, _, _, _, _, e => by simp [refD] at e
  | n + 1, i, a, d, hi, e => by
    obtain ⟨c, hc, r⟩ := m.at hi
    simp only [refD, hc] at e
    cases c with
    | lst us =>
      obtain ⟨vs, q, rr⟩ := r
      simp only [Option.map_eq_some_iff] at e
      obtain ⟨ds, e1, rfl⟩ := e
      obtain ⟨h1, h2⟩ := toDs_ok (refD_ok m n) us _ ds rr e1
      exact ⟨.lst (.inl (.inl q)) h1, by simpa [PyData.canLay0] using h2⟩
    | _ => cases e
theorem datU_ok (m : RepM K H ρ μ) {u : U} {v : V} {d : PyData} (r : RepV K H ρ u v) (e : datU μ u = some d) : Dp K H v d ∧ d.canLay0 = true := toD_ok (refD_ok m 6) u v d r e
end
def eqLim : Nat := 800
def eqU (u w : U) (μ : Mem) : Option Bool := match datU μ u, datU μ w with
  | some d, some e => if min d.depth e.depth ≤ eqLim then some (PyData.eqv d e) else none
  | _, _ => none
def resB (o : Option Bool) (μ : Mem) : Res U := match o with
  | some b => .ok (.bl b) μ
  | none => .bad
def uEq (u w : U) (μ : Mem) : Res U := resB (eqU u w μ) μ
def uNe (u w : U) (μ : Mem) : Res U := resB ((eqU u w μ).map not) μ

section
variable {X : Cx} {W : WX} {k : Nat}
def rEqL (K : PySem.W.Frag) : R2 := fun x y H Q => ∃ d e, Dp K H x d ∧ Dp K H y e ∧ d.canLay0 = true ∧ e.canLay0 = true ∧ min d.depth e.depth ≤ eqLim ∧ Q (.bl (PyData.eqv d e)) H
def rNeL (K : PySem.W.Frag) : R2 := fun x y H Q => ∃ d e, Dp K H x d ∧ Dp K H y e ∧ d.canLay0 = true ∧ e.canLay0 = true ∧ min d.depth e.depth ≤ eqLim ∧ Q (.bl (!PyData.eqv d e)) H
theorem op_eqL (hu : X.A.units + 800 < cLine) : OpR X (compareOp .Eq) (rEqL X.K) := by
  intro pins s σ H x y v u Q I rx ry h
  obtain ⟨d, e, hd, he, sd, se, hl, q⟩ := h
  obtain ⟨as, r1⟩ := Dp.reads I d x v hd rx
  obtain ⟨bs, r2⟩ := Dp.reads I e y u he ry
  exact SeqAt.compareEq_reads r1 r2 sd se (Nat.lt_of_le_of_lt (Nat.add_le_add_left hl _) hu) ⟨.bl _, H, I, rfl, q⟩
theorem op_neL (hu : X.A.units + 800 < cLine) : OpR X (compareOp .NotEq) (rNeL X.K) := by
  intro pins s σ H x y v u Q I rx ry h
  obtain ⟨d, e, hd, he, sd, se, hl, q⟩ := h
  obtain ⟨as, r1⟩ := Dp.reads I d x v hd rx
  obtain ⟨bs, r2⟩ := Dp.reads I e y u he ry
  exact SeqAt.compareNe_reads r1 r2 sd se (Nat.lt_of_le_of_lt (Nat.add_le_add_left hl _) hu) ⟨.bl _, H, I, rfl, q⟩
/-- levels are counted from 40 on -/
theorem Good.un (G : Good X W (k + 40)) : X.A.units + 800 < cLine := by
  have := G.room.un
  omega
theorem Good.hu (G : Good X W (k + 40)) : X.A.units + 1 < cLine := by
  have := G.room.un
  omega
theorem os_eq (G : Good X W (k + 40)) : OpS X W (compareOp .Eq) uEq := by
  intro ρ μ σ H u w x y Q hm ru rw' h
  unfold uEq eqU at h
  cases e1 : datU μ u with
  | none => rw [e1] at h; exact h.elim
  | some d =>
    cases e2 : datU μ w with
    | none => rw [e1, e2] at h; exact h.elim
    | some e =>
      rw [e1, e2] at h
      obtain ⟨a1, a2⟩ := datU_ok hm ru e1
      obtain ⟨b1, b2⟩ := datU_ok hm rw' e2
      by_cases hl : min d.depth e.depth ≤ eqLim
      · simp only [hl, if_true, resB] at h
        exact ⟨_, op_eqL G.un, d, e, a1, b1, a2, b2, hl, h.ok (Stp.refl hm) .bl⟩
      · simp only [hl, if_false, resB] at h
        exact h.elim
theorem os_ne (G : Good X W (k + 40)) : OpS X W (compareOp .NotEq) uNe := by
  intro ρ μ σ H u w x y Q hm ru rw' h
  unfold uNe eqU at h
  cases e1 : datU μ u with
  | none => rw [e1] at h; exact h.elim
  | some d =>
    cases e2 : datU μ w with
    | none => rw [e1, e2] at h; exact h.elim
    | some e =>
      rw [e1, e2] at h
      obtain ⟨a1, a2⟩ := datU_ok hm ru e1
      obtain ⟨b1, b2⟩ := datU_ok hm rw' e2
      by_cases hl : min d.depth e.depth ≤ eqLim
      · simp only [hl, if_true, Option.map_some, resB] at h
        exact ⟨_, op_neL G.un, d, e, a1, b1, a2, b2, hl, h.ok (Stp.refl hm) .bl⟩
      · simp only [hl, if_false, Option.map_none, resB] at h
        exact h.elim

/-! ### arithmetic -/
def big64 (i : Int) : Bool := decide (-(2 ^ 64) < i ∧ i < 2 ^ 64)
def uAdd (u w : U) (μ : Mem) : Res U := match u, w with
  | .int i, .int j => .ok (.int (i + j)) μ
  | .str a, .str b => if a.length + b.length ≤ lim then .ok (.str (a ++ b)) μ else .bad
  | .ref a, .ref b => match μ[a]?, μ[b]? with
    | some (.lst xs), some (.lst ys) => if xs.length + ys.length ≤ lim then .ok (.ref μ.length) (μ ++ [.lst (xs ++ ys)]) else .bad
    | _, _ => .bad
  | .tup (x :: xs), .tup ys => if (x :: xs).length + ys.length ≤ lim then .ok (.tup (x :: xs ++ ys)) μ else .bad
  | .tup [], .tup ys => .ok (.tup ys) μ
  | _, _ => .bad
theorem strOk_append {a b : Str} (ha : PyData.strOk a = true) (hb : PyData.strOk b = true) : PyData.strOk (a ++ b) = true := by
  show ((a.cps ++ b.cps).all _) = true
  rw [Array.all_append]
  exact Bool.and_eq_true_iff.mpr ⟨ha, hb⟩
theorem lst_of {K : PySem.W.Frag} {H : Hp} {ρ : List Addr} {μ : Mem} (hm : RepM K H ρ μ) {i : Nat} {a : Addr} {us : List U} (e : ρ[i]? = some a) (h : μ[i]? = some (.lst us)) : ∃ vs, H a = some (.lst vs) ∧ RepVs K H ρ us vs := hm.get e h
theorem newL {K : PySem.W.Frag} {H : Hp} {ρ : List Addr} {μ : Mem} (hm : RepM K H ρ μ) {p : Addr} {us : List U} {vs : List V} (np : H p = none) (r : RepVs K H ρ us vs) : Stp K ρ H (ρ ++ [p]) (upd H p (.lst vs)) (μ ++ [.lst us]) :=
  Stp.new hm np ⟨vs, upd_same, r.mono (TX.new np) (Ext.snoc ρ p)⟩
theorem refN {K : PySem.W.Frag} {H : Hp} {ρ : List Addr} {μ : Mem} (hm : RepM K H ρ μ) {p : Addr} {H' : Hp} : RepV K H' (ρ ++ [p]) (.ref μ.length) (.ref p) := .ref (by rw [← hm.len, List.getElem?_append_right (Nat.le_refl _)]; simp)
theorem newT {K : PySem.W.Frag} {H : Hp} {ρ : List Addr} {p : Addr} {us : List U} {vs : List V} (np : H p = none) (r : RepVs K H ρ us vs) : RepV K (upd H p (.tup vs)) ρ (.tup us) (.ref p) :=
  .tup (.inl (.inl upd_same)) (r.mono (TX.new np) (Ext.refl _))
theorem os_add : OpS X W (binaryOp .Add) uAdd := by
  intro ρ μ σ H u w x y Q hm ru rw' h
  unfold uAdd at h
  split at h
  · cases ru; cases rw'
    exact ⟨_, op_add, _, _, rfl, rfl, h.ok (Stp.refl hm) .int⟩
  · cases ru with
    | str sa =>
      cases rw' with
      | str sb =>
        split at h
        · exact ⟨_, op_add_str, _, _, rfl, rfl, lim_le (by assumption), h.ok (Stp.refl hm) (.str (strOk_append sa sb))⟩
        · exact h.elim
  · split at h
    · rename_i a b _ _ xs ys e1 e2
      cases ru with
      | ref ra =>
        cases rw' with
        | ref rb =>
          split at h
          · obtain ⟨vs, q1, r1⟩ := lst_of hm ra e1
            obtain ⟨ws, q2, r2⟩ := lst_of hm rb e2
            have hl : vs.length + ws.length ≤ sizeLine := by
              rw [← r1.length, ← r2.length]
              exact lim_le (by assumption)
            exact ⟨_, op_cat, _, _, vs, ws, rfl, rfl, q1, q2, hl, fun p np => h.ok (newL hm np (r1.append r2)) (refN hm)⟩
          · exact h.elim
    · exact h.elim
  · cases ru with
    | tup s1 r1 =>
      cases rw' with
      | tup s2 r2 =>
        split at h
        · rename_i hz
          refine ⟨_, op_catT, _, _, _, _, rfl, rfl, s1, s2, ?_, ?_, fun e => ?_, fun e p np => h.ok (Stp.temp hm np) (newT np (r1.append r2))⟩
          · intro e; subst e; cases r1
          · rw [← r1.length, ← r2.length]; exact lim_le hz
          · subst e
            cases r2
            rw [List.append_nil] at h
            exact h.ok (Stp.refl hm) (.tup s1 r1)
        · exact h.elim
  · cases ru with
    | tup s1 r1 =>
      cases r1
      cases rw' with
      | tup s2 r2 => exact ⟨_, op_cat0, _, _, _, rfl, rfl, s1, s2, h.ok (Stp.refl hm) (.tup s2 r2)⟩
  · exact h.elim
def uSub (u w : U) (μ : Mem) : Res U := match u, w with
  | .int i, .int j => .ok (.int (i - j)) μ
  | _, _ => .bad
theorem os_sub : OpS X W (binaryOp .Sub) uSub := by
  intro ρ μ σ H u w x y Q hm ru rw' h
  unfold uSub at h
  split at h
  · cases ru; cases rw'
    exact ⟨_, op_sub, _, _, rfl, rfl, h.ok (Stp.refl hm) .int⟩
  · exact h.elim
def repU (n : Nat) (xs : List U) : List U := (List.replicate n xs).flatten
theorem RepVs.rep {K : PySem.W.Frag} {H : Hp} {ρ : List Addr} {us : List U} {vs : List V} (r : RepVs K H ρ us vs) : ∀ n : Nat, RepVs K H ρ (repU n us) (List.replicate n vs).flatten
  | 0 => .nil
  | n + 1 => by
    have ih := RepVs.rep r n
    unfold repU at *
    rw [List.replicate_succ, List.replicate_succ, List.flatten_cons, List.flatten_cons]
    exact r.append ih
def uMul (u w : U) (μ : Mem) : Res U := match u, w with
  | .int i, .int j => if big64 i || big64 j then .ok (.int (i * j)) μ else .bad
  | .ref a, .int n => match μ[a]? with
    | some (.lst xs) => if -(2 ^ 63) ≤ n ∧ n < 2 ^ 63 ∧ xs.length * n.toNat ≤ lim then .ok (.ref μ.length) (μ ++ [.lst (repU n.toNat xs)]) else .bad
    | _ => .bad
  | .tup xs, .int n => if -1000 ≤ n ∧ n ≤ 1000 ∧ xs.length ≤ 1000 then .ok (.tup (repU n.toNat xs)) μ else .bad
  | _, _ => .bad
theorem os_mul : OpS X W (binaryOp .Mult) uMul := by
  intro ρ μ σ H u w x y Q hm ru rw' h
  unfold uMul at h
  split at h
  · cases ru; cases rw'
    split at h
    · rename_i hb
      refine ⟨_, op_mul, _, _, rfl, rfl, ?_, h.ok (Stp.refl hm) .int⟩
      rcases Bool.or_eq_true_iff.mp hb with e | e
      · exact .inl (of_decide_eq_true e)
      · exact .inr (of_decide_eq_true e)
    · exact h.elim
  · split at h
    · rename_i xs e1
      cases ru with
      | ref ra =>
        cases rw'
        split at h
        · rename_i hz
          obtain ⟨vs, q1, r1⟩ := lst_of hm ra e1
          exact ⟨_, op_rep, _, _, vs, rfl, rfl, q1, hz.1, hz.2.1, by rw [← r1.length]; exact lim_le hz.2.2, fun p np => h.ok (newL hm np (r1.rep _)) (refN hm)⟩
        · exact h.elim
    · exact h.elim
  · rename_i xs n
    split at h
    · rename_i hz
      cases rw'
      cases ru with
      | tup s1 r1 =>
        rename_i a vs
        by_cases h0 : xs = []
        · subst h0
          cases r1
          have e : repU n.toNat ([] : List U) = [] := by simp [repU]
          rw [e] at h
          exact ⟨_, op_repT1, _, _, _, rfl, rfl, s1, .inl rfl, by omega, by omega, h.ok (Stp.refl hm) (.tup s1 .nil)⟩
        · have hv : vs ≠ [] := fun e => by subst e; cases r1; exact h0 rfl
          by_cases h1 : n = 1
          · subst h1
            have e : repU (1 : Int).toNat xs = xs := by simp [repU]
            rw [e] at h
            exact ⟨_, op_repT1, _, _, _, rfl, rfl, s1, .inr rfl, by omega, by omega, h.ok (Stp.refl hm) (.tup s1 r1)⟩
          · by_cases h2 : n ≤ 0
            · have e : repU n.toNat xs = [] := by rw [Int.toNat_of_nonpos h2]; rfl
              rw [e] at h
              exact ⟨_, op_repT0, _, _, _, rfl, rfl, s1, hv, by omega, h2, fun p np => h.ok (Stp.temp hm np) (newT np .nil)⟩
            · exact ⟨_, op_repT, _, _, _, rfl, rfl, s1, hv, by omega, by omega, by rw [← r1.length]; exact hz.2.2, fun p np => h.ok (Stp.temp hm np) (newT np (r1.rep _))⟩
    · exact h.elim
  · exact h.elim
def uFdiv (u w : U) (μ : Mem) : Res U := match u, w with
  | .int i, .int j => if j ≠ 0 ∧ j.natAbs < 1073741824 then .ok (.int (i.fdiv j)) μ else .bad
  | _, _ => .bad
theorem os_fdiv : OpS X W (binaryOp .FloorDiv) uFdiv := by
  intro ρ μ σ H u w x y Q hm ru rw' h
  unfold uFdiv at h
  split at h
  · cases ru; cases rw'
    split at h
    · exact ⟨_, op_fdivN, _, _, rfl, rfl, by assumption, h.ok (Stp.refl hm) .int⟩
    · exact h.elim
  · exact h.elim
def uMod (u w : U) (μ : Mem) : Res U := match u, w with
  | .int i, .int j => if j ≠ 0 then .ok (.int (i.fmod j)) μ else .bad
  | _, _ => .bad
theorem os_mod : OpS X W (binaryOp .Mod) uMod := by
  intro ρ μ σ H u w x y Q hm ru rw' h
  unfold uMod at h
  split at h
  · cases ru; cases rw'
    split at h
    · exact ⟨_, op_modN, _, _, rfl, rfl, by assumption, h.ok (Stp.refl hm) .int⟩
    · exact h.elim
  · exact h.elim
def uPow (u w : U) (μ : Mem) : Res U := match u, w with
  | .int i, .int j => if 0 ≤ j ∧ j ≤ 1000000 ∧ i.natAbs < 2 ^ 64 then .ok (.int (i ^ j.toNat)) μ else .bad
  | _, _ => .bad
theorem os_pow : OpS X W (binaryOp .Pow) uPow := by
  intro ρ μ σ H u w x y Q hm ru rw' h
  unfold uPow at h
  split at h
  · cases ru; cases rw'
    split at h
    · exact ⟨_, op_pow, _, _, rfl, rfl, by assumption, h.ok (Stp.refl hm) .int⟩
    · exact h.elim
  · exact h.elim
def fNeg (a : FE) : FE := fun s μ => (a s μ).bind fun u μ1 => match u with
  | .int i => .ok (.int (-i)) μ1
  | _ => .bad
theorem ce_neg {a : Expr} {ma : FE} {pos : Pos} (ha : CE X W a ma) : CE X W (.UnaryOp .USub a pos) (fNeg ma) := by
  intro ρ μ s σ H Q hs hm h
  refine ⟨_, pe_un un_neg pe_w, ?_⟩
  refine ha ρ μ s σ H _ hs hm (h.bind fun u μ1 x H1 ρ1 t1 r1 h1 => ?_)
  split at h1
  · cases r1
    exact ⟨_, rfl, h1.ok (Stp.refl t1.mem) .int⟩
  · exact h1.elim

/-! ### comparisons -/
def uCmp (p : Int → Int → Bool) (q : Str → Str → Option Bool) (u w : U) (μ : Mem) : Res U := match u, w with
  | .int i, .int j => .ok (.bl (p i j)) μ
  | .str a, .str b => resB (q a b) μ
  | _, _ => .bad
def strLt (a b : Str) : Bool := PySem.Spec.ltCps a.cps.toList b.cps.toList
def uLt : U → U → Mem → Res U := uCmp (fun i j => decide (i < j)) fun a b => some (strLt a b)
def uLe : U → U → Mem → Res U := uCmp (fun i j => decide (i ≤ j)) fun a b => some (!strLt b a)
def uGt : U → U → Mem → Res U := uCmp (fun i j => decide (j < i)) fun _ _ => none
def uGe : U → U → Mem → Res U := uCmp (fun i j => decide (j ≤ i)) fun _ _ => none
theorem os_cmp {op : CmpOp} {p : Int → Int → Bool} {q : Str → Str → Option Bool} (h1 : OpR X (compareOp op) (rI0 fun i j => .bl (p i j)))
    (h2 : ∀ a b c, q a b = some c → OpR X (compareOp op) (fun x y H Q => x = .str a ∧ y = .str b ∧ Q (.bl c) H)) : OpS X W (compareOp op) (uCmp p q) := by
  intro ρ μ σ H u w x y Q hm ru rw' h
  unfold uCmp at h
  split at h
  · cases ru; cases rw'
    exact ⟨_, h1, _, _, rfl, rfl, h.ok (Stp.refl hm) .bl⟩
  · rename_i a b
    cases ru; cases rw'
    cases e : q a b with
    | none => rw [e] at h; exact h.elim
    | some c =>
      rw [e] at h
      exact ⟨_, h2 a b c e, rfl, rfl, h.ok (Stp.refl hm) .bl⟩
  · exact h.elim
theorem os_lt : OpS X W (compareOp .Lt) uLt := os_cmp op_lt fun a b c e => by
  cases e
  intro pins s σ H x y v u Q I rx ry ⟨ex, ey, q⟩
  exact op_lt_str pins s σ H x y v u Q I rx ry ⟨a, b, ex, ey, by rw [← PyProof.Rows.ltCps_eq]; exact q⟩
theorem os_le : OpS X W (compareOp .LtE) uLe := os_cmp op_le fun a b c e => by
  cases e
  intro pins s σ H x y v u Q I rx ry ⟨ex, ey, q⟩
  exact op_le_str pins s σ H x y v u Q I rx ry ⟨a, b, ex, ey, by rw [← PyProof.Rows.ltCps_eq]; exact q⟩
theorem os_gt : OpS X W (compareOp .Gt) uGt := os_cmp op_gt fun a b c e => nomatch e
theorem os_ge : OpS X W (compareOp .GtE) uGe := os_cmp op_ge fun a b c e => nomatch e
def uIsN (u w : U) (μ : Mem) : Res U := match w, u with
  | .non, .non => .ok (.bl true) μ
  | .non, _ => .ok (.bl false) μ
  | _, _ => .bad
def uNotN (u w : U) (μ : Mem) : Res U := match w, u with
  | .non, .non => .ok (.bl false) μ
  | .non, _ => .ok (.bl true) μ
  | _, _ => .bad
theorem os_isN : OpS X W (compareOp .Is) uIsN := by
  intro ρ μ σ H u w x y Q hm ru rw' h
  unfold uIsN at h
  split at h
  · cases ru; cases rw'
    exact ⟨_, op_isN, rfl, h.ok (Stp.refl hm) .bl⟩
  · rename_i hn
    cases rw'
    have e : decide (x = V.non) = false := decide_eq_false (fun q => by subst q; cases ru; exact hn rfl)
    exact ⟨_, op_isN, rfl, by rw [e]; exact h.ok (Stp.refl hm) .bl⟩
  · exact h.elim
theorem os_notN : OpS X W (compareOp .IsNot) uNotN := by
  intro ρ μ σ H u w x y Q hm ru rw' h
  unfold uNotN at h
  split at h
  · cases ru; cases rw'
    exact ⟨_, op_notN, rfl, h.ok (Stp.refl hm) .bl⟩
  · rename_i hn
    cases rw'
    have e : decide (x = V.non) = false := decide_eq_false (fun q => by subst q; cases ru; exact hn rfl)
    exact ⟨_, op_notN, rfl, by rw [e]; exact h.ok (Stp.refl hm) .bl⟩
  · exact h.elim
/-- a < b < c -/
def fChain (f g : U → U → Mem → Res U) (a b c : FE) : FE := fun s μ => (a s μ).bind fun x μ1 => (b s μ1).bind fun y μ2 => (f x y μ2).bind fun z μ3 => match z with
  | .bl true => (c s μ3).bind fun w μ4 => g y w μ4
  | .bl false => .ok (.bl false) μ3
  | _ => .bad
theorem ce_chain {op op' : CmpOp} {a b c : Expr} {f g : U → U → Mem → Res U} {ma mb mc : FE} {pos : Pos} (ho : OpS X W (compareOp op) f) (ho' : OpS X W (compareOp op') g) (ha : CE X W a ma) (hb : CE X W b mb) (hc : CE X W c mc)
    (hch : ∀ {r r' : R2} {ta tb tc : TE}, OpR X (compareOp op) r → OpR X (compareOp op') r' → PE X a ta → PE X b tb → PE X c tc → PE X (.Compare a [op, op'] [b, c] pos) (tChain r r' ta tb tc)) : CE X W (.Compare a [op, op'] [b, c] pos) (fChain f g ma mb mc) := by
  intro ρ μ s σ H Q hs hm h
  refine ⟨_, hch op_w op_w pe_w pe_w pe_w, ?_⟩
  refine ha ρ μ s σ H _ hs hm (h.bind fun u μ1 x H1 ρ1 t1 r1 h1 => ?_)
  refine hb ρ1 μ1 s σ H1 _ (t1.s hs) t1.mem (h1.bind fun w μ2 y H2 ρ2 t2 r2 h2 => ?_)
  refine ho ρ2 μ2 σ H2 u w x y _ t2.mem (t2.v r1) r2 (h2.bind fun z μ3 v3 H3 ρ3 t3 r3 h3 => ?_)
  split at h3
  · cases r3
    refine ⟨true, rfl, ?_⟩
    refine iteT (hc ρ3 μ3 s σ H3 _ (t3.s (t2.s (t1.s hs))) t3.mem (h3.bind fun z' μ4 v4 H4 ρ4 t4 r4 h4 => ?_))
    exact ho' ρ4 μ4 σ H4 _ _ _ _ Q t4.mem (t4.v (t3.v r2)) r4 h4
  · cases r3
    exact ⟨false, rfl, iteF (h3.ok (Stp.refl t3.mem) .bl)⟩
  · exact h3.elim

/-! ### truth, tests -/
def truU (μ : Mem) : U → Option Bool
  | .non => some false
  | .bl b => some b
  | .int i => some (i != 0)
  | .str s => if s.length ≤ lim then some ((s.length : Int) != 0) else none
  | .tup us => some (!us.isEmpty)
  | .ref i => match μ[i]? with
    | some (.lst us) => some (!us.isEmpty)
    | some (.dct kvs) => some (!kvs.isEmpty)
    | _ => none
  | .frl us => some (!us.isEmpty)
theorem RepVs.empty {K : PySem.W.Frag} {H : Hp} {ρ : List Addr} {us : List U} {vs : List V} (r : RepVs K H ρ us vs) : us.isEmpty = vs.isEmpty := by
  cases r <;> rfl
theorem map_empty {α β γ : Type} {f : α → γ} {g : β → γ} {xs : List α} {ys : List β} (h : xs.map f = ys.map g) : xs.isEmpty = ys.isEmpty := by
  cases xs <;> cases ys <;> simp_all
theorem truU_ok {K : PySem.W.Frag} {H : Hp} {ρ : List Addr} {μ : Mem} (hm : RepM K H ρ μ) {u : U} {v : V} {b : Bool} (r : RepV K H ρ u v) (e : truU μ u = some b) : TruV K v H b := by
  cases r with
  | non => cases e; rfl
  | bl => cases e; rfl
  | int => cases e; rfl
  | str hs =>
    simp only [truU] at e
    split at e
    · cases e; exact ⟨lim_le (by assumption), rfl⟩
    · cases e
  | tup hs hr =>
    cases e
    exact .inr (.inl ⟨_, hs, by rw [hr.empty]⟩)
  | ref hr =>
    obtain ⟨c, hc, rc⟩ := hm.at hr
    simp only [truU, hc] at e
    cases c with
    | lst us => obtain ⟨vs, q, r⟩ := rc; cases e; exact .inl ⟨vs, .inl (.inl q), by rw [r.empty]⟩
    | dct us => obtain ⟨vs, q, r, _⟩ := rc; cases e; exact .inr (.inr ⟨vs, q, by rw [map_empty r]⟩)
    | _ => cases e
  | frl hs hr =>
    cases e
    exact .inl ⟨_, hs.sq, by rw [hr.empty]⟩
def tst (a : FE) : FT := fun s μ => (a s μ).bind fun u μ1 => match truU μ1 u with
  | some b => .ok b μ1
  | none => .bad
theorem ct_val {a : Expr} {ma : FE} (ha : CE X W a ma) (he : ∀ whole, isTrue a X.env whole = (do let v ← whole; standAt a.pos; holding [v] (truthy v)) := by intro _; rfl) : CT X W a (tst ma) := by
  intro ρ μ s σ H Q hs hm h
  refine ⟨_, pt_truth pe_w he, ?_⟩
  refine ha ρ μ s σ H _ hs hm (h.bind fun u μ1 x H1 ρ1 t1 r1 h1 => ?_)
  cases e : truU μ1 u with
  | none => rw [e] at h1; exact h1.elim
  | some b =>
    rw [e] at h1
    exact ⟨b, truU_ok t1.mem r1 e, h1.ok (Stp.refl t1.mem) rfl⟩
/-- a comparison as a test -/
def tstB (a : FE) : FT := fun s μ => (a s μ).bind fun u μ1 => match u with
  | .bl b => .ok b μ1
  | _ => .bad
theorem ct_cmp {op : CmpOp} {a b : Expr} {f : U → U → Mem → Res U} {ma mb : FE} {pos : Pos} (ho : OpS X W (compareOp op) f) (ha : CE X W a ma) (hb : CE X W b mb) (hm0 : behindInMarks op b = false) : CT X W (.Compare a [op] [b] pos) (tstB (fOp f ma mb)) := by
  intro ρ μ s σ H Q hs hm h
  refine ⟨_, pt_cmpR op_w pe_w pe_w hm0, ?_⟩
  have h' : Post X W σ relB ρ H ((ma s μ).bind fun u μ1 => (mb s μ1).bind fun w μ2 => (f u w μ2).bind fun z μ3 => match z with
    | .bl b => .ok b μ3
    | _ => .bad) Q := by
    have e : tstB (fOp f ma mb) s μ = ((ma s μ).bind fun u μ1 => (mb s μ1).bind fun w μ2 => (f u w μ2).bind fun z μ3 => match z with
      | .bl b => .ok b μ3
      | _ => .bad) := by
      unfold tstB fOp
      cases ma s μ with
      | ok u μ1 =>
        show Res.bind (Res.bind (mb s μ1) _) _ = Res.bind (mb s μ1) _
        cases mb s μ1 <;> rfl
      | ex c m => rfl
      | bad => rfl
    rw [← e]; exact h
  refine ha ρ μ s σ H _ hs hm (h'.bind fun u μ1 x H1 ρ1 t1 r1 h1 => ?_)
  refine hb ρ1 μ1 s σ H1 _ (t1.s hs) t1.mem (h1.bind fun w μ2 y H2 ρ2 t2 r2 h2 => ?_)
  refine ho ρ2 μ2 σ H2 u w x y _ t2.mem (t2.v r1) r2 (h2.bind fun z μ3 v H3 ρ3 t3 r3 h3 => ?_)
  split at h3
  · cases r3
    exact ⟨_, rfl, h3.ok (Stp.refl t3.mem) rfl⟩
  · exact h3.elim
theorem ct_chain {op op' : CmpOp} {a b c : Expr} {f g : U → U → Mem → Res U} {ma mb mc : FE} {pos : Pos} (ho : OpS X W (compareOp op) f) (ho' : OpS X W (compareOp op') g) (ha : CE X W a ma) (hb : CE X W b mb) (hc : CE X W c mc)
    (hch : ∀ {r r' : R2} {ta tb tc : TE}, OpR X (compareOp op) r → OpR X (compareOp op') r' → PE X a ta → PE X b tb → PE X c tc → PT X (.Compare a [op, op'] [b, c] pos) (tTest (L2.tChain r r' ta tb tc))) : CT X W (.Compare a [op, op'] [b, c] pos) (tstB (fChain f g ma mb mc)) := by
  intro ρ μ s σ H Q hs hm h
  refine ⟨_, hch op_w op_w pe_w pe_w pe_w, ?_⟩
  have h' : Post X W σ relB ρ H ((ma s μ).bind fun x μ1 => (mb s μ1).bind fun y μ2 => (f x y μ2).bind fun z μ3 => match z with
    | .bl true => (mc s μ3).bind fun w μ4 => (g y w μ4).bind fun z μ3 => match z with
      | .bl b => .ok b μ3
      | _ => .bad
    | .bl false => .ok false μ3
    | _ => .bad) Q := by
    have e : tstB (fChain f g ma mb mc) s μ = ((ma s μ).bind fun x μ1 => (mb s μ1).bind fun y μ2 => (f x y μ2).bind fun z μ3 => match z with
      | .bl true => (mc s μ3).bind fun w μ4 => (g y w μ4).bind fun z μ3 => match z with
        | .bl b => .ok b μ3
        | _ => .bad
      | .bl false => .ok false μ3
      | _ => .bad) := by
      unfold tstB fChain
      cases ma s μ with
      | ok u μ1 =>
        show Res.bind (Res.bind (mb s μ1) _) _ = Res.bind (mb s μ1) _
        cases mb s μ1 with
        | ok w μ2 =>
          show Res.bind (Res.bind (f u w μ2) _) _ = Res.bind (f u w μ2) _
          cases f u w μ2 with
          | ok z μ3 =>
            cases z with
            | bl b =>
              cases b with
              | true =>
                show Res.bind (Res.bind (mc s μ3) _) _ = Res.bind (mc s μ3) _
                cases mc s μ3 <;> rfl
              | false => rfl
            | _ => rfl
          | ex c m => rfl
          | bad => rfl
        | ex c m => rfl
        | bad => rfl
      | ex c m => rfl
      | bad => rfl
    rw [← e]; exact h
  refine ha ρ μ s σ H _ hs hm (h'.bind fun u μ1 x H1 ρ1 t1 r1 h1 => ?_)
  refine hb ρ1 μ1 s σ H1 _ (t1.s hs) t1.mem (h1.bind fun w μ2 y H2 ρ2 t2 r2 h2 => ?_)
  refine ho ρ2 μ2 σ H2 u w x y _ t2.mem (t2.v r1) r2 (h2.bind fun z μ3 v3 H3 ρ3 t3 r3 h3 => ?_)
  split at h3
  · cases r3
    refine ⟨true, rfl, ?_⟩
    refine iteT (hc ρ3 μ3 s σ H3 _ (t3.s (t2.s (t1.s hs))) t3.mem (h3.bind fun z' μ4 v4 H4 ρ4 t4 r4 h4 => ?_))
    refine ho' ρ4 μ4 σ H4 _ _ _ _ _ t4.mem (t4.v (t3.v r2)) r4 (h4.bind fun z μ5 v H5 ρ5 t5 r5 h5 => ?_)
    split at h5
    · cases r5
      exact ⟨_, rfl, h5.ok (Stp.refl t5.mem) rfl⟩
    · exact h5.elim
  · cases r3
    exact ⟨false, rfl, iteF ⟨false, rfl, h3.ok (Stp.refl t3.mem) rfl⟩⟩
  · exact h3.elim
def tNt (t : FT) : FT := fun s μ => (t s μ).bind fun b μ1 => .ok (!b) μ1
theorem ct_not {a : Expr} {ta : FT} {pos : Pos} (ha : CT X W a ta) : CT X W (.UnaryOp .Not a pos) (tNt ta) := by
  intro ρ μ s σ H Q hs hm h
  refine ⟨_, pt_not pt_w, ?_⟩
  refine ha ρ μ s σ H _ hs hm (h.bind fun b μ1 x H1 ρ1 t1 r1 h1 => ?_)
  cases r1
  exact h1.ok (Stp.refl t1.mem) rfl
def tAn (t u : FT) : FT := fun s μ => (t s μ).bind fun b μ1 => match b with
  | true => u s μ1
  | false => .ok false μ1
def tOr' (t u : FT) : FT := fun s μ => (t s μ).bind fun b μ1 => match b with
  | true => .ok true μ1
  | false => u s μ1
/-- chains of and, or -/
def WW (X : Cx) (e : Expr) : TT := fun σ H Q => ∃ t, PW X e t ∧ t σ H Q
theorem pw_w {X : Cx} {e : Expr} : PW X e (WW X e) := ⟨fun wh pins s σ H Q I ⟨_, h, q⟩ => h.run wh pins s σ H Q I q⟩
def CW (X : Cx) (W : WX) (e : Expr) (m : FT) : Prop := ∀ ρ μ s σ H Q, RepS X.K H ρ s σ → RepM X.K H ρ μ → Post X W σ relB ρ H (m s μ) Q → WW X e σ H Q
theorem CW.ct {e : Expr} {m : FT} (h : CW X W e m) : CT X W e m := fun ρ μ s σ H Q hs hm p => by
  obtain ⟨t, h1, h2⟩ := h ρ μ s σ H Q hs hm p
  exact ⟨t, h1.pt, h2⟩
theorem cw_and1 {a : Expr} {ta : FT} {pos : Pos} (ha : CT X W a ta) : CW X W (.BoolOp .And [a] pos) ta := fun ρ μ s σ H Q hs hm p => ⟨_, pw_and1 pt_w, ha ρ μ s σ H Q hs hm p⟩
theorem cw_or1 {a : Expr} {ta : FT} {pos : Pos} (ha : CT X W a ta) : CW X W (.BoolOp .Or [a] pos) ta := fun ρ μ s σ H Q hs hm p => ⟨_, pw_or1 pt_w, ha ρ μ s σ H Q hs hm p⟩
theorem cw_and {a b : Expr} {rest : List Expr} {ta tb : FT} {pos : Pos} (ha : CT X W a ta) (hb : CW X W (.BoolOp .And (b :: rest) pos) tb) : CW X W (.BoolOp .And (a :: b :: rest) pos) (tAn ta tb) := by
  intro ρ μ s σ H Q hs hm h
  refine ⟨_, pw_and pt_w pw_w, ?_⟩
  refine ha ρ μ s σ H _ hs hm (h.bind fun b μ1 x H1 ρ1 t1 r1 h1 => ?_)
  cases r1
  cases b with
  | true => exact iteT (hb ρ1 μ1 s σ H1 Q (t1.s hs) t1.mem h1)
  | false => exact iteF (h1.ok (Stp.refl t1.mem) rfl)
theorem cw_or {a b : Expr} {rest : List Expr} {ta tb : FT} {pos : Pos} (ha : CT X W a ta) (hb : CW X W (.BoolOp .Or (b :: rest) pos) tb) : CW X W (.BoolOp .Or (a :: b :: rest) pos) (tOr' ta tb) := by
  intro ρ μ s σ H Q hs hm h
  refine ⟨_, pw_or pt_w pw_w, ?_⟩
  refine ha ρ μ s σ H _ hs hm (h.bind fun b μ1 x H1 ρ1 t1 r1 h1 => ?_)
  cases r1
  cases b with
  | true => exact iteT (h1.ok (Stp.refl t1.mem) rfl)
  | false => exact iteF (hb ρ1 μ1 s σ H1 Q (t1.s hs) t1.mem h1)
/-- as values: all but the last are True or False -/
def fAnd (a b : FE) : FE := fun s μ => (a s μ).bind fun u μ1 => match u with
  | .bl true => b s μ1
  | .bl false => .ok (.bl false) μ1
  | _ => .bad
def fOr (a b : FE) : FE := fun s μ => (a s μ).bind fun u μ1 => match u with
  | .bl true => .ok (.bl true) μ1
  | .bl false => b s μ1
  | _ => .bad
theorem ce_one {op : BoolOp} {a : Expr} {ma : FE} {pos : Pos} (ha : CE X W a ma) : CE X W (.BoolOp op [a] pos) ma := fun ρ μ s σ H Q hs hm p => ⟨_, pe_one pe_w, ha ρ μ s σ H Q hs hm p⟩
theorem ce_and {a b : Expr} {rest : List Expr} {ma mb : FE} {pos : Pos} (ha : CE X W a ma) (hb : CE X W (.BoolOp .And (b :: rest) pos) mb) : CE X W (.BoolOp .And (a :: b :: rest) pos) (fAnd ma mb) := by
  intro ρ μ s σ H Q hs hm h
  refine ⟨_, pe_and pe_w pe_w, ?_⟩
  refine ha ρ μ s σ H _ hs hm (h.bind fun b μ1 x H1 ρ1 t1 r1 h1 => ?_)
  split at h1
  · cases r1
    exact ⟨_, rfl, iteT (hb ρ1 μ1 s σ H1 Q (t1.s hs) t1.mem h1)⟩
  · cases r1
    exact ⟨_, rfl, iteF (h1.ok (Stp.refl t1.mem) .bl)⟩
  · exact h1.elim
theorem ce_or {a b : Expr} {rest : List Expr} {ma mb : FE} {pos : Pos} (ha : CE X W a ma) (hb : CE X W (.BoolOp .Or (b :: rest) pos) mb) : CE X W (.BoolOp .Or (a :: b :: rest) pos) (fOr ma mb) := by
  intro ρ μ s σ H Q hs hm h
  refine ⟨_, pe_or pe_w pe_w, ?_⟩
  refine ha ρ μ s σ H _ hs hm (h.bind fun b μ1 x H1 ρ1 t1 r1 h1 => ?_)
  split at h1
  · cases r1
    exact ⟨_, rfl, iteT (h1.ok (Stp.refl t1.mem) .bl)⟩
  · cases r1
    exact ⟨_, rfl, iteF (hb ρ1 μ1 s σ H1 Q (t1.s hs) t1.mem h1)⟩
  · exact h1.elim
def fNot (a : FE) : FE := fun s μ => (a s μ).bind fun u μ1 => match u with
  | .bl b => .ok (.bl (!b)) μ1
  | _ => .bad
theorem ce_not {a : Expr} {ma : FE} {pos : Pos} (ha : CE X W a ma) : CE X W (.UnaryOp .Not a pos) (fNot ma) := by
  intro ρ μ s σ H Q hs hm h
  refine ⟨_, pe_not pe_w, ?_⟩
  refine ha ρ μ s σ H _ hs hm (h.bind fun b μ1 x H1 ρ1 t1 r1 h1 => ?_)
  split at h1
  · cases r1
    exact ⟨_, rfl, h1.ok (Stp.refl t1.mem) .bl⟩
  · exact h1.elim
def fIf (t : FT) (a b : FE) : FE := fun s μ => (t s μ).bind fun c μ1 => match c with
  | true => a s μ1
  | false => b s μ1
theorem ce_if {c a b : Expr} {tc : FT} {ma mb : FE} {pos : Pos} (hc : CT X W c tc) (ha : CE X W a ma) (hb : CE X W b mb) : CE X W (.IfExp c a b pos) (fIf tc ma mb) := by
  intro ρ μ s σ H Q hs hm h
  refine ⟨_, pe_ifExp pt_w pe_w pe_w, ?_⟩
  refine hc ρ μ s σ H _ hs hm (h.bind fun b μ1 x H1 ρ1 t1 r1 h1 => ?_)
  cases r1
  cases b with
  | true => exact iteT (ha ρ1 μ1 s σ H1 Q (t1.s hs) t1.mem h1)
  | false => exact iteF (hb ρ1 μ1 s σ H1 Q (t1.s hs) t1.mem h1)

/-! ### arguments, displays -/
def aNil : FA := fun _ μ => .ok [] μ
def aCons (a : FE) (r : FA) : FA := fun s μ => (a s μ).bind fun u μ1 => (r s μ1).bind fun us μ2 => .ok (u :: us) μ2
theorem ca_nil : CA X W [] aNil := fun ρ μ s σ H Q hs hm h => ⟨_, pa_nil, h.ok (Stp.refl hm) .nil⟩
theorem ca_cons {e : Expr} {es : List Expr} {me : FE} {mr : FA} (he : CE X W e me) (hr : CA X W es mr) (hse : starEach (e :: es) X.env = (false, eval e X.env) :: starEach es X.env := by rfl) : CA X W (e :: es) (aCons me mr) := by
  intro ρ μ s σ H Q hs hm h
  refine ⟨_, pa_cons pe_w pa_w hse, ?_⟩
  refine he ρ μ s σ H _ hs hm (h.bind fun u μ1 x H1 ρ1 t1 r1 h1 => ?_)
  refine hr ρ1 μ1 s σ H1 _ (t1.s hs) t1.mem (h1.bind fun us μ2 xs H2 ρ2 t2 r2 h2 => ?_)
  exact h2.ok (Stp.refl t2.mem) (.cons (t2.v r1) r2)
def fTup (a : FA) : FE := fun s μ => (a s μ).bind fun us μ1 => if us.length ≤ lim then .ok (.tup us) μ1 else .bad
def fLst (a : FA) : FE := fun s μ => (a s μ).bind fun us μ1 => if us.length ≤ lim then .ok (.ref μ1.length) (μ1 ++ [.lst us]) else .bad
theorem ce_tup {es : List Expr} {ma : FA} {x1 pos} (ha : CA X W es ma) : CE X W (.Tuple es x1 pos) (fTup ma) := by
  intro ρ μ s σ H Q hs hm h
  refine ⟨_, pe_tup pa_w, ?_⟩
  refine ha ρ μ s σ H _ hs hm (h.bind fun us μ1 vs H1 ρ1 t1 r1 h1 => ?_)
  split at h1
  · exact ⟨by rw [← RepVs.length r1]; exact lim_le (by assumption), fun p np => h1.ok (Stp.temp t1.mem np) (newT np r1)⟩
  · exact h1.elim
theorem ce_lst {es : List Expr} {ma : FA} {pos : Pos} (ha : CA X W es ma) : CE X W (.List es pos) (fLst ma) := by
  intro ρ μ s σ H Q hs hm h
  refine ⟨_, pe_lst pa_w, ?_⟩
  refine ha ρ μ s σ H _ hs hm (h.bind fun us μ1 vs H1 ρ1 t1 r1 h1 => ?_)
  split at h1
  · exact ⟨by rw [← RepVs.length r1]; exact lim_le (by assumption), fun p np => h1.ok (newL t1.mem np r1) (refN t1.mem)⟩
  · exact h1.elim
end
end Dg
/-! Dg3: calls of built-ins, subscripts, slices, dicts, methods. -/
namespace Dg
open PySem PySem.Spec PyProof.Rows L2
section
variable {X : Cx} {W : WX} {k : Nat}

/-! ### calls of built-ins by value -/
def CallW (X : Cx) (f : Value) : List V → Hp → VK → Prop := fun vs H Q => ∃ r, CallR X f r ∧ r vs H Q
theorem call_w {f : Value} : CallR X f (CallW X f) := fun pins s σ H xs us Q I rx ⟨_, h, q⟩ => h pins s σ H xs us Q I rx q
def CallS (X : Cx) (W : WX) (f : Value) (g : List U → Mem → Res U) : Prop := ∀ ρ μ σ H us vs Q, RepM X.K H ρ μ → RepVs X.K H ρ us vs → Post X W σ relV ρ H (g us μ) Q → CallW X f vs H Q
def fCall (g : List U → Mem → Res U) (a : FA) : FE := fun s μ => (a s μ).bind g
theorem ce_callB {id : String} {x : Str} {e : Expr} {es : List Expr} {ma : FA} {g : List U → Mem → Res U} {p pos : Pos} (hc : CallS X W (.builtin id) g) (hg : Gl X x) (hm : X.mg x = none) (hv : bootBuiltins x = some (.builtin id)) (ha : CA X W (e :: es) ma)
    (hp : ∀ {r : List V → Hp → VK → Prop} {t : TA}, CallR X (.builtin id) r → PA X (e :: es) t → PE X (.Call (.Name x p) (e :: es) [] pos) (tCB r t)) : CE X W (.Call (.Name x p) (e :: es) [] pos) (fCall g ma) := by
  intro ρ μ s σ H Q hs hm' h
  refine ⟨_, hp call_w pa_w, ?_⟩
  exact ha ρ μ s σ H _ hs hm' (h.bind fun us μ1 vs H1 ρ1 t1 r1 h1 => hc ρ1 μ1 σ H1 us vs Q t1.mem r1 h1)
theorem ce_callT {T : String} {x : Str} {e : Expr} {es : List Expr} {ma : FA} {g : List U → Mem → Res U} {p pos : Pos} (hc : CallS X W (.type T) g) (hg : Gl X x) (hm : X.mg x = none) (hv : bootBuiltins x = some (.type T)) (ha : CA X W (e :: es) ma)
    (hp : ∀ {r : List V → Hp → VK → Prop} {t : TA}, CallR X (.type T) r → PA X (e :: es) t → PE X (.Call (.Name x p) (e :: es) [] pos) (tCB r t)) : CE X W (.Call (.Name x p) (e :: es) [] pos) (fCall g ma) := by
  intro ρ μ s σ H Q hs hm' h
  refine ⟨_, hp call_w pa_w, ?_⟩
  exact ha ρ μ s σ H _ hs hm' (h.bind fun us μ1 vs H1 ρ1 t1 r1 h1 => hc ρ1 μ1 σ H1 us vs Q t1.mem r1 h1)

/-- what of a list or tuple is read -/
inductive SeqOf (μ : Mem) : U → List U → Prop
  | tup {us : List U} : SeqOf μ (.tup us) us
  | lst {i : Nat} {us : List U} : μ[i]? = some (.lst us) → SeqOf μ (.ref i) us
def seqU (μ : Mem) : U → Option (List U)
  | .tup us => some us
  | .ref i => match μ[i]? with
    | some (.lst us) => some us
    | _ => none
  | .frl us => some us
  | _ => none
theorem seqU_ok {K : PySem.W.Frag} {H : Hp} {ρ : List Addr} {μ : Mem} (hm : RepM K H ρ μ) {u : U} {v : V} {us : List U} (r : RepV K H ρ u v) (e : seqU μ u = some us) : ∃ a vs, v = .ref a ∧ (SqL K H a vs ∨ SqT K H a vs) ∧ RepVs K H ρ us vs := by
  cases r with
  | tup hs hr => cases e; exact ⟨_, _, rfl, .inr hs, hr⟩
  | ref hr =>
    obtain ⟨c, hc, rc⟩ := hm.at hr
    simp only [seqU, hc] at e
    cases c with
    | lst us => obtain ⟨vs, q, r⟩ := rc; cases e; exact ⟨_, vs, rfl, .inl (.inl (.inl q)), r⟩
    | _ => cases e
  | frl hs hr => cases e; exact ⟨_, _, rfl, .inl hs.sq, hr⟩
  | _ => cases e
/-- a list that stands for itself -/
def lstU (μ : Mem) : U → Option (List U)
  | .ref i => match μ[i]? with
    | some (.lst us) => some us
    | _ => none
  | .frl us => some us
  | _ => none
theorem lstU_ok {K : PySem.W.Frag} {H : Hp} {ρ : List Addr} {μ : Mem} (hm : RepM K H ρ μ) {u : U} {v : V} {us : List U} (r : RepV K H ρ u v) (e : lstU μ u = some us) : ∃ a vs, v = .ref a ∧ SqL K H a vs ∧ RepVs K H ρ us vs := by
  cases r with
  | ref hr =>
    obtain ⟨c, hc, rc⟩ := hm.at hr
    simp only [lstU, hc] at e
    cases c with
    | lst us => obtain ⟨vs, q, r⟩ := rc; cases e; exact ⟨_, vs, rfl, .inl (.inl q), r⟩
    | _ => cases e
  | frl hs hr => cases e; exact ⟨_, _, rfl, hs.sq, hr⟩
  | _ => cases e
def lenU (μ : Mem) : U → Option Nat
  | .str z => if z.length ≤ lim then some z.length else none
  | .tup us => some us.length
  | .ref i => match μ[i]? with
    | some (.lst us) => some us.length
    | some (.dct us) => some us.length
    | _ => none
  | .frl us => some us.length
  | _ => none
def bLen (us : List U) (μ : Mem) : Res U := match us with
  | [u] => match lenU μ u with
    | some n => .ok (.int (n : Int)) μ
    | none => .bad
  | _ => .bad
theorem cs_len : CallS X W (.builtin "len") bLen := by
  intro ρ μ σ H us vs Q hm r h
  unfold bLen at h
  split at h
  · rename_i u
    cases r with
    | cons ru r0 =>
      cases r0
      cases e : lenU μ u with
      | none => rw [e] at h; exact h.elim
      | some n =>
        rw [e] at h
        have q : ∀ H', H' = H → Q (.int (n : Int)) H' := fun H' e => e ▸ h.ok (Stp.refl hm) .int
        cases ru with
        | str hs =>
          simp only [lenU] at e
          split at e
          · cases e; exact ⟨_, call_len, _, _, rfl, ⟨lim_le (by assumption), rfl⟩, q _ rfl⟩
          · cases e
        | tup hs hr => cases e; exact ⟨_, call_len, _, _, rfl, .inr ⟨_, hs, hr.length⟩, q _ rfl⟩
        | frl hs hr => cases e; exact ⟨_, call_len, _, _, rfl, .inl ⟨_, hs.sq, hr.length⟩, q _ rfl⟩
        | ref hr =>
          obtain ⟨c, hc, rc⟩ := hm.at hr
          simp only [lenU, hc] at e
          cases c with
          | lst us => obtain ⟨vs, q1, r⟩ := rc; cases e; exact ⟨_, call_len, _, _, rfl, .inl ⟨_, .inl (.inl q1), r.length⟩, q _ rfl⟩
          | dct us =>
            obtain ⟨vs, q1, r, _⟩ := rc
            cases e
            refine ⟨_, call_lenD, _, vs, rfl, q1, ?_⟩
            have : vs.length = us.length := by have := congrArg List.length r; simpa using this
            rw [this]
            exact q _ rfl
          | _ => cases e
        | _ => cases e
  · exact h.elim
def bInt (us : List U) (μ : Mem) : Res U := match us with
  | [.int i] => .ok (.int i) μ
  | [.bl b] => .ok (.int (if b then 1 else 0)) μ
  | _ => .bad
theorem cs_int : CallS X W (.type "int") bInt := by
  intro ρ μ σ H us vs Q hm r h
  unfold bInt at h
  split at h
  · cases r with
    | cons ru r0 => cases r0; cases ru; exact ⟨_, call_int1, .inl ⟨_, rfl, h.ok (Stp.refl hm) .int⟩⟩
  · cases r with
    | cons ru r0 => cases r0; cases ru; exact ⟨_, call_int1, .inr ⟨_, rfl, h.ok (Stp.refl hm) .int⟩⟩
  · exact h.elim
def bAbs (us : List U) (μ : Mem) : Res U := match us with
  | [.int i] => .ok (.int (if i < 0 then -i else i)) μ
  | _ => .bad
theorem cs_abs : CallS X W (.builtin "abs") bAbs := by
  intro ρ μ σ H us vs Q hm r h
  unfold bAbs at h
  split at h
  · cases r with
    | cons ru r0 => cases r0; cases ru; exact ⟨_, call_abs, _, rfl, h.ok (Stp.refl hm) .int⟩
  · exact h.elim
def intsU : List U → Option (List Int)
  | [] => some []
  | .int i :: us => (intsU us).map (i :: ·)
  | _ :: _ => none
theorem intsU_ok : ∀ {us : List U} {is : List Int}, intsU us = some is → us = is.map U.int
  | [], _, e => by cases e; rfl
  | .int i :: us, _, e => by
    simp only [intsU, Option.map_eq_some_iff] at e
    obtain ⟨a, h, rfl⟩ := e
    rw [intsU_ok h]; rfl
  | .non :: us, _, e => by cases e
  | .bl _ :: us, _, e => by cases e
  | .str _ :: us, _, e => by cases e
  | .tup _ :: us, _, e => by cases e
  | .ref _ :: us, _, e => by cases e
  | .frl _ :: us, _, e => by cases e
def strsU : List U → Option (List Str)
  | [] => some []
  | .str i :: us => (strsU us).map (i :: ·)
  | _ :: _ => none
theorem strsU_ok : ∀ {us : List U} {is : List Str}, strsU us = some is → us = is.map U.str
  | [], _, e => by cases e; rfl
  | .str i :: us, _, e => by
    simp only [strsU, Option.map_eq_some_iff] at e
    obtain ⟨a, h, rfl⟩ := e
    rw [strsU_ok h]; rfl
  | .non :: us, _, e => by cases e
  | .bl _ :: us, _, e => by cases e
  | .int _ :: us, _, e => by cases e
  | .tup _ :: us, _, e => by cases e
  | .ref _ :: us, _, e => by cases e
  | .frl _ :: us, _, e => by cases e
def blsU : List U → Option (List Bool)
  | [] => some []
  | .bl i :: us => (blsU us).map (i :: ·)
  | _ :: _ => none
theorem blsU_ok : ∀ {us : List U} {is : List Bool}, blsU us = some is → us = is.map U.bl
  | [], _, e => by cases e; rfl
  | .bl i :: us, _, e => by
    simp only [blsU, Option.map_eq_some_iff] at e
    obtain ⟨a, h, rfl⟩ := e
    rw [blsU_ok h]; rfl
  | .non :: us, _, e => by cases e
  | .str _ :: us, _, e => by cases e
  | .int _ :: us, _, e => by cases e
  | .tup _ :: us, _, e => by cases e
  | .ref _ :: us, _, e => by cases e
  | .frl _ :: us, _, e => by cases e
def maxI : Int → List Int → Int
  | m, [] => m
  | m, x :: xs => maxI (if x > m then x else m) xs
def minI : Int → List Int → Int
  | m, [] => m
  | m, x :: xs => minI (if x < m then x else m) xs
theorem maxI_ok : ∀ (xs : List Int) (m : Int), (maxI m xs = m ∨ maxI m xs ∈ xs) ∧ m ≤ maxI m xs ∧ ∀ y ∈ xs, y ≤ maxI m xs
  | [], m => ⟨.inl rfl, Int.le_refl _, by simp⟩
  | x :: xs, m => by
    obtain ⟨h1, h2, h3⟩ := maxI_ok xs (if x > m then x else m)
    refine ⟨?_, ?_, fun y hy => ?_⟩
    · rcases h1 with h1 | h1
      · show maxI (if x > m then x else m) xs = m ∨ _
        rw [h1]
        by_cases c : x > m
        · rw [if_pos c]; exact .inr (by show maxI (if x > m then x else m) xs ∈ x :: xs; rw [h1, if_pos c]; exact List.mem_cons_self)
        · rw [if_neg c]; exact .inl rfl
      · exact .inr (List.mem_cons_of_mem _ h1)
    · show m ≤ maxI (if x > m then x else m) xs
      by_cases c : x > m
      · rw [if_pos c] at h2 ⊢; omega
      · rw [if_neg c] at h2 ⊢; omega
    · show y ≤ maxI (if x > m then x else m) xs
      rcases List.mem_cons.mp hy with e | e
      · subst e
        by_cases c : y > m
        · rw [if_pos c] at h2 ⊢; omega
        · rw [if_neg c] at h2 ⊢; omega
      · exact h3 y e
theorem minI_ok : ∀ (xs : List Int) (m : Int), (minI m xs = m ∨ minI m xs ∈ xs) ∧ minI m xs ≤ m ∧ ∀ y ∈ xs, minI m xs ≤ y
  | [], m => ⟨.inl rfl, Int.le_refl _, by simp⟩
  | x :: xs, m => by
    obtain ⟨h1, h2, h3⟩ := minI_ok xs (if x < m then x else m)
    refine ⟨?_, ?_, fun y hy => ?_⟩
    · rcases h1 with h1 | h1
      · show minI (if x < m then x else m) xs = m ∨ _
        rw [h1]
        by_cases c : x < m
        · rw [if_pos c]; exact .inr (by show minI (if x < m then x else m) xs ∈ x :: xs; rw [h1, if_pos c]; exact List.mem_cons_self)
        · rw [if_neg c]; exact .inl rfl
      · exact .inr (List.mem_cons_of_mem _ h1)
    · show minI (if x < m then x else m) xs ≤ m
      by_cases c : x < m
      · rw [if_pos c] at h2 ⊢; omega
      · rw [if_neg c] at h2 ⊢; omega
    · show minI (if x < m then x else m) xs ≤ y
      rcases List.mem_cons.mp hy with e | e
      · subst e
        by_cases c : y < m
        · rw [if_pos c] at h2 ⊢; omega
        · rw [if_neg c] at h2 ⊢; omega
      · exact h3 y e
def bMax (us : List U) (μ : Mem) : Res U := match us with
  | [.int i, .int j] => .ok (.int (if j > i then j else i)) μ
  | [.ref r] => match (lstU μ (.ref r)).bind intsU with
    | some (m :: is) => .ok (.int (maxI m is)) μ
    | _ => .bad
  | _ => .bad
def bMin (us : List U) (μ : Mem) : Res U := match us with
  | [.int i, .int j] => .ok (.int (if j < i then j else i)) μ
  | [.ref r] => match (lstU μ (.ref r)).bind intsU with
    | some (m :: is) => .ok (.int (minI m is)) μ
    | _ => .bad
  | _ => .bad
theorem cs_max (hc : X.calm = true) : CallS X W (.builtin "max") bMax := by
  intro ρ μ σ H us vs Q hm r h
  unfold bMax at h
  split at h
  · cases r with
    | cons ru r0 => cases r0 with | cons rw' r1 => cases r1; cases ru; cases rw'; exact ⟨_, call_max2 hc, _, _, rfl, h.ok (Stp.refl hm) .int⟩
  · rename_i i
    cases r with
    | cons ru r0 =>
      cases r0
      split at h
      · rename_i m is e
        obtain ⟨us, e1, e2⟩ := Option.bind_eq_some_iff.mp e
        obtain ⟨a, vs, rfl, q1, r1⟩ := lstU_ok hm ru e1
        rw [intsU_ok e2] at r1
        rw [r1.ints] at q1
        refine ⟨_, cr_max hc, a, m :: is, rfl, q1, by simp, fun z hz hle => ?_⟩
        have ez : z = maxI m is := by
          obtain ⟨h1, h2, h3⟩ := maxI_ok is m
          have a1 : maxI m is ≤ z := by
            rcases h1 with h1 | h1
            · rw [h1]; exact hle m (by simp)
            · exact hle _ (List.mem_cons_of_mem _ h1)
          have a2 : z ≤ maxI m is := by
            rcases List.mem_cons.mp hz with e | e
            · rw [e]; exact h2
            · exact h3 z e
          omega
        rw [ez]
        exact h.ok (Stp.refl hm) .int
      · exact h.elim
  · exact h.elim
theorem cs_min (hc : X.calm = true) : CallS X W (.builtin "min") bMin := by
  intro ρ μ σ H us vs Q hm r h
  unfold bMin at h
  split at h
  · cases r with
    | cons ru r0 => cases r0 with | cons rw' r1 => cases r1; cases ru; cases rw'; exact ⟨_, call_min2 hc, _, _, rfl, h.ok (Stp.refl hm) .int⟩
  · rename_i i
    cases r with
    | cons ru r0 =>
      cases r0
      split at h
      · rename_i m is e
        obtain ⟨us, e1, e2⟩ := Option.bind_eq_some_iff.mp e
        obtain ⟨a, vs, rfl, q1, r1⟩ := lstU_ok hm ru e1
        rw [intsU_ok e2] at r1
        rw [r1.ints] at q1
        refine ⟨_, cr_min hc, a, m :: is, rfl, q1, by simp, fun z hz hle => ?_⟩
        have ez : z = minI m is := by
          obtain ⟨h1, h2, h3⟩ := minI_ok is m
          have a1 : z ≤ minI m is := by
            rcases h1 with h1 | h1
            · rw [h1]; exact hle m (by simp)
            · exact hle _ (List.mem_cons_of_mem _ h1)
          have a2 : minI m is ≤ z := by
            rcases List.mem_cons.mp hz with e | e
            · rw [e]; exact h2
            · exact h3 z e
          omega
        rw [ez]
        exact h.ok (Stp.refl hm) .int
      · exact h.elim
  · exact h.elim
def bSum (us : List U) (μ : Mem) : Res U := match us with
  | [.ref r] => match (lstU μ (.ref r)).bind intsU with
    | some is => .ok (.int is.sum) μ
    | _ => .bad
  | _ => .bad
theorem cs_sum (hc : X.calm = true) : CallS X W (.builtin "sum") bSum := by
  intro ρ μ σ H us vs Q hm r h
  unfold bSum at h
  split at h
  · cases r with
    | cons ru r0 =>
      cases r0
      split at h
      · rename_i is e
        obtain ⟨us, e1, e2⟩ := Option.bind_eq_some_iff.mp e
        obtain ⟨a, vs, rfl, q1, r1⟩ := lstU_ok hm ru e1
        rw [intsU_ok e2] at r1
        rw [r1.ints] at q1
        exact ⟨_, cr_sum hc, a, is, rfl, q1, h.ok (Stp.refl hm) .int⟩
      · exact h.elim
  · exact h.elim
def bAll (us : List U) (μ : Mem) : Res U := match us with
  | [.ref r] => match (lstU μ (.ref r)).bind blsU with
    | some is => .ok (.bl (is.all id)) μ
    | _ => .bad
  | _ => .bad
def bAny (us : List U) (μ : Mem) : Res U := match us with
  | [.ref r] => match (lstU μ (.ref r)).bind blsU with
    | some is => .ok (.bl (is.any id)) μ
    | _ => .bad
  | _ => .bad
theorem cs_all (hc : X.calm = true) : CallS X W (.builtin "all") bAll := by
  intro ρ μ σ H us vs Q hm r h
  unfold bAll at h
  split at h
  · cases r with
    | cons ru r0 =>
      cases r0
      split at h
      · rename_i is e
        obtain ⟨us, e1, e2⟩ := Option.bind_eq_some_iff.mp e
        obtain ⟨a, vs, rfl, q1, r1⟩ := lstU_ok hm ru e1
        rw [blsU_ok e2] at r1
        rw [r1.bls] at q1
        exact ⟨_, cr_all hc, a, is, rfl, q1, h.ok (Stp.refl hm) .bl⟩
      · exact h.elim
  · exact h.elim
theorem cs_any (hc : X.calm = true) : CallS X W (.builtin "any") bAny := by
  intro ρ μ σ H us vs Q hm r h
  unfold bAny at h
  split at h
  · cases r with
    | cons ru r0 =>
      cases r0
      split at h
      · rename_i is e
        obtain ⟨us, e1, e2⟩ := Option.bind_eq_some_iff.mp e
        obtain ⟨a, vs, rfl, q1, r1⟩ := lstU_ok hm ru e1
        rw [blsU_ok e2] at r1
        rw [r1.bls] at q1
        exact ⟨_, cr_any hc, a, is, rfl, q1, h.ok (Stp.refl hm) .bl⟩
      · exact h.elim
  · exact h.elim
def bList (us : List U) (μ : Mem) : Res U := match us with
  | [u] => match seqU μ u with
    | some xs => .ok (.ref μ.length) (μ ++ [.lst xs])
    | none => .bad
  | _ => .bad
theorem cs_list : CallS X W (.type "list") bList := by
  intro ρ μ σ H us vs Q hm r h
  unfold bList at h
  split at h
  · cases r with
    | cons ru r0 =>
      cases r0
      split at h
      · rename_i xs e
        obtain ⟨a, vs, rfl, q1, r1⟩ := seqU_ok hm ru e
        exact ⟨_, call_list_of, a, vs, rfl, q1, fun p np => h.ok (newL hm np r1) (refN hm)⟩
      · exact h.elim
  · exact h.elim
def bTuple (us : List U) (μ : Mem) : Res U := match us with
  | [u] => match seqU μ u with
    | some xs => .ok (.tup xs) μ
    | none => .bad
  | _ => .bad
theorem cs_tuple : CallS X W (.type "tuple") bTuple := by
  intro ρ μ σ H us vs Q hm r h
  unfold bTuple at h
  split at h
  · cases r with
    | cons ru r0 =>
      cases r0
      split at h
      · rename_i xs e
        obtain ⟨a, vs, rfl, q1, r1⟩ := seqU_ok hm ru e
        refine ⟨_, call_tuple_of, a, vs, rfl, ?_⟩
        rcases q1 with q1 | q1
        · exact .inl ⟨q1, fun p np => h.ok (Stp.temp hm np) (newT np r1)⟩
        · exact .inr ⟨q1, h.ok (Stp.refl hm) (.tup q1 r1)⟩
      · exact h.elim
  · exact h.elim

/-! ### sorted -/
def insI (x : Int) : List Int → List Int
  | [] => [x]
  | y :: ys => if x ≤ y then x :: y :: ys else y :: insI x ys
def sortI : List Int → List Int
  | [] => []
  | x :: xs => insI x (sortI xs)
theorem insI_perm (x : Int) : ∀ ys, (insI x ys).Perm (x :: ys)
  | [] => List.Perm.refl _
  | y :: ys => by
    unfold insI
    split
    · exact List.Perm.refl _
    · exact ((insI_perm x ys).cons y).trans (List.Perm.swap x y ys)
theorem sortI_perm : ∀ xs, (sortI xs).Perm xs
  | [] => List.Perm.refl _
  | x :: xs => (insI_perm x (sortI xs)).trans ((sortI_perm xs).cons x)
theorem insI_sorted (x : Int) : ∀ ys : List Int, ys.Pairwise (· ≤ ·) → (insI x ys).Pairwise (· ≤ ·)
  | [], _ => by simp [insI]
  | y :: ys, h => by
    unfold insI
    rw [List.pairwise_cons] at h
    split
    · rename_i c
      rw [List.pairwise_cons, List.pairwise_cons]
      refine ⟨fun z hz => ?_, h⟩
      rcases List.mem_cons.mp hz with e | e
      · rw [e]; exact c
      · exact Int.le_trans c (h.1 z e)
    · rename_i c
      rw [List.pairwise_cons]
      refine ⟨fun z hz => ?_, insI_sorted x ys h.2⟩
      rcases List.mem_cons.mp ((insI_perm x ys).mem_iff.mp hz) with e | e
      · rw [e]; omega
      · exact h.1 z e
theorem sortI_sorted : ∀ xs, (sortI xs).Pairwise (· ≤ ·)
  | [] => .nil
  | x :: xs => insI_sorted x _ (sortI_sorted xs)
theorem sorted_unique : ∀ {a b : List Int}, a.Perm b → a.Pairwise (· ≤ ·) → b.Pairwise (· ≤ ·) → a = b
  | [], b, p, _, _ => by rw [List.nil_perm.mp p]
  | x :: a, [], p, _, _ => by simp at p
  | x :: a, y :: b, p, ha, hb => by
    rw [List.pairwise_cons] at ha hb
    have hx : x ∈ y :: b := p.mem_iff.mp (by simp)
    have hy : y ∈ x :: a := p.mem_iff.mpr (by simp)
    have e : x = y := by
      rcases List.mem_cons.mp hx with q | q
      · exact q
      · rcases List.mem_cons.mp hy with q2 | q2
        · exact q2.symm
        · exact Int.le_antisymm (ha.1 y q2) (hb.1 x q)
    subst e
    rw [sorted_unique (List.Perm.cons_inv p) ha.2 hb.2]
abbrev leC (a b : List Nat) : Prop := PySem.Spec.ltCps b a = false
theorem leC_refl : ∀ a : List Nat, leC a a
  | [] => rfl
  | a :: r => by
    have := leC_refl r
    simp_all [leC, PySem.Spec.ltCps]
theorem leC_anti : ∀ {a b : List Nat}, leC a b → leC b a → a = b
  | [], [], _, _ => rfl
  | [], _ :: _, h, g => by simp [leC, PySem.Spec.ltCps] at h g
  | _ :: _, [], h, g => by simp [leC, PySem.Spec.ltCps] at h g
  | a :: r, b :: t, h, g => by
    simp only [leC, PySem.Spec.ltCps, Bool.or_eq_false_iff, decide_eq_false_iff_not, Bool.and_eq_false_iff, beq_eq_false_iff_ne] at h g
    have e : a = b := by omega
    subst e
    have h2 : leC r t := by rcases h.2 with q | q; exact absurd rfl q; exact q
    have g2 : leC t r := by rcases g.2 with q | q; exact absurd rfl q; exact q
    rw [leC_anti h2 g2]
theorem leC_trans : ∀ {a b c : List Nat}, leC a b → leC b c → leC a c
  | [], _, [], _, _ => rfl
  | [], _, _ :: _, _, _ => rfl
  | _ :: _, [], _, h, _ => by simp [leC, PySem.Spec.ltCps] at h
  | _ :: _, _ :: _, [], _, g => by simp [leC, PySem.Spec.ltCps] at g
  | a :: r, b :: t, c :: w, h, g => by
    simp only [leC, PySem.Spec.ltCps, Bool.or_eq_false_iff, decide_eq_false_iff_not, Bool.and_eq_false_iff, beq_eq_false_iff_ne] at h g ⊢
    refine ⟨by omega, ?_⟩
    by_cases e : c = a
    · right
      have e1 : b = a := by omega
      have e2 : c = b := by omega
      have h2 : leC r t := by rcases h.2 with q | q; exact absurd e1 q; exact q
      have g2 : leC t w := by rcases g.2 with q | q; exact absurd e2 q; exact q
      exact leC_trans h2 g2
    · left; exact e
theorem leC_total (a b : List Nat) : leC a b ∨ leC b a := by
  induction a generalizing b with
  | nil => cases b <;> simp [leC, PySem.Spec.ltCps]
  | cons x r ih =>
    cases b with
    | nil => right; rfl
    | cons y t =>
      simp only [leC, PySem.Spec.ltCps, Bool.or_eq_false_iff, decide_eq_false_iff_not, Bool.and_eq_false_iff, beq_eq_false_iff_ne]
      by_cases h1 : x < y
      · left; exact ⟨by omega, .inl (by omega)⟩
      · by_cases h2 : y < x
        · right; exact ⟨by omega, .inl (by omega)⟩
        · rcases ih t with q | q
          · left; exact ⟨h2, .inr q⟩
          · right; exact ⟨h1, .inr q⟩
def leS (a b : Str) : Prop := leC a.cps.toList b.cps.toList
theorem leS_anti {a b : Str} (h : leS a b) (g : leS b a) : a = b := by
  have e := leC_anti h g
  cases a with | mk a => cases b with | mk b => exact congrArg Str.mk (Array.toList_inj.mp e)
theorem leS_of_rising : ∀ (r : List Str) (p : Str), risingS p r = true → (p :: r).Pairwise leS
  | [], p, _ => by simp
  | x :: r, p, h => by
    simp only [risingS, Bool.and_eq_true, Bool.not_eq_true'] at h
    have ih := leS_of_rising r x h.2
    rw [List.pairwise_cons] at ih
    rw [List.pairwise_cons, List.pairwise_cons]
    have h1 : leS p x := h.1
    refine ⟨fun z hz => ?_, ih⟩
    rcases List.mem_cons.mp hz with e | e
    · rw [e]; exact h1
    · exact leC_trans h1 (ih.1 z e)
theorem leS_of_sorted : ∀ {r : List Str}, sortedS r = true → r.Pairwise leS
  | [], _ => .nil
  | x :: r, h => leS_of_rising r x h
theorem uniqueS : ∀ {a b : List Str}, a.Perm b → a.Pairwise leS → b.Pairwise leS → a = b
  | [], b, p, _, _ => by rw [List.nil_perm.mp p]
  | x :: a, [], p, _, _ => by simp at p
  | x :: a, y :: b, p, ha, hb => by
    rw [List.pairwise_cons] at ha hb
    have hx : x ∈ y :: b := p.mem_iff.mp (by simp)
    have hy : y ∈ x :: a := p.mem_iff.mpr (by simp)
    have e : x = y := by
      rcases List.mem_cons.mp hx with q | q
      · exact q
      · rcases List.mem_cons.mp hy with q2 | q2
        · exact q2.symm
        · exact leS_anti (ha.1 y q2) (hb.1 x q)
    subst e
    rw [uniqueS (List.Perm.cons_inv p) ha.2 hb.2]
def insS (x : Str) : List Str → List Str
  | [] => [x]
  | y :: ys => if strLt y x then y :: insS x ys else x :: y :: ys
def sortS : List Str → List Str
  | [] => []
  | x :: xs => insS x (sortS xs)
theorem insS_perm (x : Str) : ∀ ys, (insS x ys).Perm (x :: ys)
  | [] => List.Perm.refl _
  | y :: ys => by
    unfold insS
    split
    · exact ((insS_perm x ys).cons y).trans (List.Perm.swap x y ys)
    · exact List.Perm.refl _
theorem sortS_perm : ∀ xs, (sortS xs).Perm xs
  | [] => List.Perm.refl _
  | x :: xs => (insS_perm x (sortS xs)).trans ((sortS_perm xs).cons x)
theorem insS_sorted (x : Str) : ∀ ys : List Str, ys.Pairwise leS → (insS x ys).Pairwise leS
  | [], _ => by simp [insS]
  | y :: ys, h => by
    unfold insS
    rw [List.pairwise_cons] at h
    split
    · rename_i c
      have yx : leS y x := by
        rcases leC_total y.cps.toList x.cps.toList with q | q
        · exact q
        · rw [leC] at q
          unfold strLt at c
          rw [q] at c; cases c
      rw [List.pairwise_cons]
      refine ⟨fun z hz => ?_, insS_sorted x ys h.2⟩
      rcases List.mem_cons.mp ((insS_perm x ys).mem_iff.mp hz) with e | e
      · rw [e]; exact yx
      · exact h.1 z e
    · rename_i c
      have xy : leS x y := by
        unfold strLt at c
        exact Bool.eq_false_iff.mpr c
      rw [List.pairwise_cons, List.pairwise_cons]
      refine ⟨fun z hz => ?_, h⟩
      rcases List.mem_cons.mp hz with e | e
      · rw [e]; exact xy
      · exact leC_trans xy (h.1 z e)
theorem sortS_sorted : ∀ xs, (sortS xs).Pairwise leS
  | [] => .nil
  | x :: xs => insS_sorted x _ (sortS_sorted xs)
def keysS : List (Key × U) → Option (List Str)
  | [] => some []
  | (.inr x, _) :: r => (keysS r).map (x :: ·)
  | _ :: _ => none
theorem keysS_ok : ∀ {us : List (Key × U)} {is : List Str}, keysS us = some is → us.map (·.1) = is.map Sum.inr
  | [], _, e => by cases e; rfl
  | (.inr x, _) :: us, _, e => by
    simp only [keysS, Option.map_eq_some_iff] at e
    obtain ⟨a, h, rfl⟩ := e
    simp [keysS_ok h]
  | (.inl _, _) :: us, _, e => by cases e
def keysI : List (Key × U) → Option (List Int)
  | [] => some []
  | (.inl x, _) :: r => (keysI r).map (x :: ·)
  | _ :: _ => none
theorem keysI_ok : ∀ {us : List (Key × U)} {is : List Int}, keysI us = some is → us.map (·.1) = is.map Sum.inl
  | [], _, e => by cases e; rfl
  | (.inl x, _) :: us, _, e => by
    simp only [keysI, Option.map_eq_some_iff] at e
    obtain ⟨a, h, rfl⟩ := e
    simp [keysI_ok h]
  | (.inr _, _) :: us, _, e => by cases e
def keyOk : Key → Bool
  | .inl _ => true
  | .inr x => PyData.strOk x
/-- sorted: ints; fewer than 64 texts; a dict's fewer than 64 text keys -/
def bSorted (us : List U) (μ : Mem) : Res U := match us with
  | [.ref r] => match μ[r]? with
    | some (.dct kvs) => match keysS kvs with
      | some ks => if ks.length < 64 ∧ ks.all PyData.strOk = true then .ok (.ref μ.length) (μ ++ [.lst ((sortS ks).map U.str)]) else .bad
      | none => match keysI kvs with
        | some ks => if ks.length < 64 then .ok (.ref μ.length) (μ ++ [.lst ((sortI ks).map U.int)]) else .bad
        | none => .bad
    | _ => match lstU μ (.ref r) with
      | some xs => match strsU xs with
        | some ss => if ss.length < 64 then .ok (.ref μ.length) (μ ++ [.lst ((sortS ss).map U.str)]) else .bad
        | none => match intsU xs with
          | some is => .ok (.ref μ.length) (μ ++ [.lst ((sortI is).map U.int)])
          | none => .bad
      | none => .bad
  | _ => .bad
theorem cs_sorted (hc : X.calm = true) : CallS X W (.builtin "sorted") bSorted := by
  intro ρ μ σ H us vs Q hm r h
  unfold bSorted at h
  split at h
  · rename_i i
    cases r with
    | cons ru r0 =>
      cases r0
      split at h
      · rename_i kvs e0
        split at h
        · rename_i ks ek
          split at h
          · rename_i hz
            cases ru with
            | ref hr =>
              obtain ⟨ws, q1, q2, _⟩ := hm.get hr e0
              refine ⟨_, call_sortedD hc, _, ws, ks, rfl, .inl q1, q2.trans (keysS_ok ek), hz.1, fun ys p pm sd np => ?_⟩
              have ey : ys = sortS ks := uniqueS (pm.trans (sortS_perm ks).symm) (leS_of_sorted sd) (sortS_sorted ks)
              subst ey
              exact h.ok (newL hm np (RepVs.ofStrs _ fun x hx => List.all_eq_true.mp hz.2 x ((sortS_perm ks).mem_iff.mp hx))) (refN hm)
          · exact h.elim
        · split at h
          · rename_i ks ek
            split at h
            · rename_i hz
              cases ru with
              | ref hr =>
                obtain ⟨ws, q1, q2, _⟩ := hm.get hr e0
                refine ⟨_, call_sortedDI hc, _, ws, ks, rfl, .inl q1, q2.trans (keysI_ok ek), hz, fun ys p pm sd np => ?_⟩
                have ey : ys = sortI ks := sorted_unique (pm.trans (sortI_perm ks).symm) sd (sortI_sorted ks)
                subst ey
                exact h.ok (newL hm np (RepVs.ofInts _)) (refN hm)
            · exact h.elim
          · exact h.elim
      · split at h
        · rename_i xs e1
          obtain ⟨a, vs, rfl, q1, r1⟩ := lstU_ok hm ru e1
          split at h
          · rename_i ss e2
            split at h
            · rename_i hz
              rw [strsU_ok e2] at r1
              have ok := r1.strsOk
              rw [r1.strs] at q1
              refine ⟨_, cr_sortedS, a, ss, rfl, q1, hz, fun ys p pm sd np => ?_⟩
              have ey : ys = sortS ss := uniqueS (pm.trans (sortS_perm ss).symm) (leS_of_sorted sd) (sortS_sorted ss)
              subst ey
              exact h.ok (newL hm np (RepVs.ofStrs _ fun x hx => ok x ((sortS_perm ss).mem_iff.mp hx))) (refN hm)
            · exact h.elim
          · split at h
            · rename_i is e3
              rw [intsU_ok e3] at r1
              rw [r1.ints] at q1
              refine ⟨_, cr_sortedI, a, is, rfl, q1, fun ys p pm sd np => ?_⟩
              have ey : ys = sortI is := sorted_unique (pm.trans (sortI_perm is).symm) sd (sortI_sorted is)
              subst ey
              exact h.ok (newL hm np (RepVs.ofInts _)) (refN hm)
            · exact h.elim
        · exact h.elim
  · exact h.elim
end
end Dg
/-! Dg4: subscripts, slices, dicts, isinstance, methods. -/
namespace Dg
open PySem PySem.Spec PyProof.Rows L2

/-! ### dicts by their pairs -/
def valU (kus : List (Key × U)) (k : Key) : Option U := (kus.find? fun kv => decide (kv.1 = k)).map (·.2)
def putU (kus : List (Key × U)) (k : Key) (u : U) : List (Key × U) :=
  if (kus.any fun kv => decide (kv.1 = k)) = true then kus.map (fun kv => if kv.1 = k then (kv.1, u) else kv) else kus ++ [(k, u)]
structure RepKV (K : PySem.W.Frag) (H : Hp) (ρ : List Addr) (kus : List (Key × U)) (kvs : List (Key × V)) : Prop where
  keys : kvs.map (·.1) = kus.map (·.1)
  vals : RepVs K H ρ (kus.map (·.2)) (kvs.map (·.2))
section
variable {K : PySem.W.Frag} {H : Hp} {ρ : List Addr}
theorem RepKV.nil : RepKV K H ρ [] [] := ⟨rfl, .nil⟩
theorem RepKV.cons {k : Key} {u : U} {v : V} {kus : List (Key × U)} {kvs : List (Key × V)} (r : RepV K H ρ u v) (h : RepKV K H ρ kus kvs) : RepKV K H ρ ((k, u) :: kus) ((k, v) :: kvs) := ⟨by simp [h.keys], .cons r h.vals⟩
theorem RepKV.uncons {p : Key × U} {kus : List (Key × U)} {ws : List (Key × V)} (h : RepKV K H ρ (p :: kus) ws) : ∃ v kvs, ws = (p.1, v) :: kvs ∧ RepV K H ρ p.2 v ∧ RepKV K H ρ kus kvs := by
  obtain ⟨h1, h2⟩ := h
  cases ws with
  | nil => simp at h1
  | cons w ws =>
    simp only [List.map_cons, List.cons.injEq] at h1
    rw [List.map_cons, List.map_cons] at h2
    cases h2 with
    | cons r1 r2 => exact ⟨w.2, ws, by rw [← h1.1], r1, h1.2, r2⟩
theorem RepKV.unnil {ws : List (Key × V)} (h : RepKV K H ρ [] ws) : ws = [] := by
  have := h.keys
  simpa using this
theorem RepKV.length {kus : List (Key × U)} {kvs : List (Key × V)} (h : RepKV K H ρ kus kvs) : kvs.length = kus.length := by
  have := congrArg List.length h.keys
  simpa using this
theorem RepKV.mono {H' : Hp} {ρ' : List Addr} {kus : List (Key × U)} {kvs : List (Key × V)} (t : TX H H') (e : Ext ρ ρ') (h : RepKV K H ρ kus kvs) : RepKV K H' ρ' kus kvs := ⟨h.keys, h.vals.mono t e⟩
theorem RepKV.val {k : Key} : ∀ {kus : List (Key × U)} {kvs : List (Key × V)}, RepKV K H ρ kus kvs → (∀ u, valU kus k = some u → ∃ v, valV kvs k = some v ∧ RepV K H ρ u v) ∧ (valU kus k = none → valV kvs k = none)
  | [], _, h => by rw [h.unnil]; exact ⟨fun u e => by simp [valU] at e, fun _ => rfl⟩
  | p :: kus, ws, h => by
    obtain ⟨v, kvs, rfl, r, t⟩ := h.uncons
    have ih := RepKV.val (k := k) t
    by_cases e : p.1 = k
    · refine ⟨fun u hu => ⟨v, valV_pos e, ?_⟩, fun hn => ?_⟩
      · simp [valU, e] at hu
        exact hu ▸ r
      · simp [valU, e] at hn
    · rw [valV_neg (p := (p.1, v)) e]
      have : valU (p :: kus) k = valU kus k := by simp [valU, e]
      rw [this]
      exact ih
theorem RepKV.any {k : Key} {kus : List (Key × U)} {kvs : List (Key × V)} (h : RepKV K H ρ kus kvs) : (kvs.any fun kv => decide (kv.1 = k)) = (kus.any fun kv => decide (kv.1 = k)) := by
  have e1 : (kvs.any fun kv => decide (kv.1 = k)) = (kvs.map (·.1)).any fun x => decide (x = k) := by simp [List.any_map, Function.comp_def]
  have e2 : (kus.any fun kv => decide (kv.1 = k)) = (kus.map (·.1)).any fun x => decide (x = k) := by simp [List.any_map, Function.comp_def]
  rw [e1, e2, h.keys]
theorem RepKV.mapPut {k : Key} {u : U} {v : V} (r : RepV K H ρ u v) : ∀ {kus : List (Key × U)} {kvs : List (Key × V)}, RepKV K H ρ kus kvs →
    RepKV K H ρ (kus.map fun kv => if kv.1 = k then (kv.1, u) else kv) (kvs.map fun kv => if kv.1 = k then (kv.1, v) else kv)
  | [], _, h => by rw [h.unnil]; exact .nil
  | p :: kus, ws, h => by
    obtain ⟨v0, kvs, rfl, r0, t⟩ := h.uncons
    have ih := RepKV.mapPut (k := k) r t
    rw [List.map_cons, List.map_cons]
    by_cases e : p.1 = k
    · simp only [e, if_true]; exact ih.cons r
    · simp only [e, if_false]; exact ih.cons (k := p.1) r0
theorem RepKV.snoc {k : Key} {u : U} {v : V} (r : RepV K H ρ u v) {kus : List (Key × U)} {kvs : List (Key × V)} (h : RepKV K H ρ kus kvs) : RepKV K H ρ (kus ++ [(k, u)]) (kvs ++ [(k, v)]) := ⟨by simp [h.keys], by
  rw [List.map_append, List.map_append]; exact h.vals.append (.one r)⟩
theorem RepKV.put {k : Key} {u : U} {v : V} (r : RepV K H ρ u v) {kus : List (Key × U)} {kvs : List (Key × V)} (h : RepKV K H ρ kus kvs) : RepKV K H ρ (putU kus k u) (putK kvs k v) := by
  unfold putU putK
  rw [h.any]
  split
  · exact h.mapPut r
  · exact h.snoc r
theorem dct_of {μ : Mem} (hm : RepM K H ρ μ) {i : Nat} {a : Addr} {kus : List (Key × U)} (e : ρ[i]? = some a) (h : μ[i]? = some (.dct kus)) : ∃ kvs, H a = some (.dK kvs) ∧ RepKV K H ρ kus kvs := by
  obtain ⟨kvs, q, w, r⟩ := hm.get e h
  exact ⟨kvs, q, w, r⟩
theorem newD {μ : Mem} (hm : RepM K H ρ μ) {p : Addr} {kus : List (Key × U)} {kvs : List (Key × V)} (np : H p = none) (r : RepKV K H ρ kus kvs) : Stp K ρ H (ρ ++ [p]) (upd H p (.dK kvs)) (μ ++ [.dct kus]) :=
  Stp.new hm np ⟨kvs, upd_same, r.keys, (r.mono (TX.new np) (Ext.snoc ρ p)).vals⟩
theorem putD {μ : Mem} (hm : RepM K H ρ μ) {i : Nat} {a : Addr} {kus kus' : List (Key × U)} {kvs' : List (Key × V)} (e : ρ[i]? = some a) (h : μ[i]? = some (.dct kus)) (r : RepKV K H ρ kus' kvs') : Stp K ρ H ρ (upd H a (.dK kvs')) (μ.set i (.dct kus')) := by
  have t : TX H (upd H a (.dK kvs')) := (hm.get e h).tx rfl
  exact Stp.put hm e h rfl ⟨kvs', upd_same, r.keys, (r.mono t (Ext.refl _)).vals⟩
theorem putL {μ : Mem} (hm : RepM K H ρ μ) {i : Nat} {a : Addr} {us us' : List U} {vs' : List V} (e : ρ[i]? = some a) (h : μ[i]? = some (.lst us)) (r : RepVs K H ρ us' vs') : Stp K ρ H ρ (upd H a (.lst vs')) (μ.set i (.lst us')) := by
  have t : TX H (upd H a (.lst vs')) := (hm.get e h).tx rfl
  exact Stp.put hm e h rfl ⟨vs', upd_same, r.mono t (Ext.refl _)⟩
end
def keyU : U → Option Key
  | .int i => some (.inl i)
  | .str x => some (.inr x)
  | _ => none
theorem keyU_ok {K : PySem.W.Frag} {H : Hp} {ρ : List Addr} {u : U} {v : V} {k : Key} (r : RepV K H ρ u v) (e : keyU u = some k) : v = kV k := by
  cases r with
  | int => cases e; rfl
  | str _ => cases e; rfl
  | _ => cases e

section
variable {X : Cx} {W : WX} {k : Nat}
/-! ### subscripts -/
def opt {α : Type} (o : Option α) (μ : Mem) : Res α := match o with
  | some a => .ok a μ
  | none => .bad
def dctU (μ : Mem) : U → Option (List (Key × U))
  | .ref i => match μ[i]? with
    | some (.dct kus) => some kus
    | some (.lst _) => none
    | some (.fdc _) => none
    | some (.dtt _) => none
    | some (.fdt _) => none
    | some (.obj _ _) => none
    | none => none
  | _ => none
def ixU (u w : U) (μ : Mem) : Res U := match dctU μ u with
  | some kus => match keyU w with
    | some k => opt (valU kus k) μ
    | none => .bad
  | none => match u, w with
    | .str z, .int i => if z.length ≤ lim then opt ((atI z.cps.toList i).map fun c => .str ⟨#[c]⟩) μ else .bad
    | u, .int i => match seqU μ u with
      | some us => opt (atI us i) μ
      | none => .bad
    | _, _ => .bad
theorem RepVs.atI {K : PySem.W.Frag} {H : Hp} {ρ : List Addr} {us : List U} {vs : List V} {i : Int} {u : U} (r : RepVs K H ρ us vs) (e : atI us i = some u) : ∃ v, L2.atI vs i = some v ∧ RepV K H ρ u v := by
  unfold L2.atI at *
  rw [← r.length]
  obtain ⟨j, h1, h2⟩ := Option.bind_eq_some_iff.mp e
  obtain ⟨v, q, w⟩ := r.get h2
  exact ⟨v, Option.bind_eq_some_iff.mpr ⟨j, h1, q⟩, w⟩
theorem strOk_sign {z : Str} {i : Int} {c : Nat} (h : PyData.strOk z = true) (e : L2.atI z.cps.toList i = some c) : PyData.strOk ⟨#[c]⟩ = true := by
  unfold L2.atI at e
  obtain ⟨j, _, h2⟩ := Option.bind_eq_some_iff.mp e
  have hc : c ∈ z.cps := by
    have := List.mem_of_getElem? h2
    exact Array.mem_toList_iff.mp this
  unfold PyData.strOk at *
  rw [Array.all_eq_true'] at *
  intro x hx
  have : x = c := by simpa using hx
  subst this
  exact h x hc
theorem ix_ok {ρ : List Addr} {μ : Mem} {σ : L2.St} {H : Hp} {u w : U} {x y : V} {Q : VK} (hm : RepM X.K H ρ μ) (ru : RepV X.K H ρ u x) (rw' : RepV X.K H ρ w y) (hd : dctU μ u = none) (h : Post X W σ relV ρ H (ixU u w μ) Q) : IxW X x y H Q := by
  unfold ixU at h
  rw [hd] at h
  simp only at h
  split at h
  · rename_i z i
    cases ru with
    | str hz =>
      cases rw'
      split at h
      · cases e : L2.atI z.cps.toList i with
        | none => rw [e] at h; exact h.elim
        | some c =>
          rw [e] at h
          exact ⟨_, ix_str, z, i, c, rfl, rfl, lim_le (by assumption), e, h.ok (Stp.refl hm) (.str (strOk_sign hz e))⟩
      · exact h.elim
  · rename_i i _
    cases rw'
    cases e : seqU μ u with
    | none => rw [e] at h; exact h.elim
    | some us =>
      rw [e] at h
      obtain ⟨a, vs, rfl, q, r⟩ := seqU_ok hm ru e
      simp only at h
      cases e2 : L2.atI us i with
      | none => rw [e2] at h; exact h.elim
      | some z =>
        rw [e2] at h
        obtain ⟨v, q2, r2⟩ := r.atI e2
        have qq := h.ok (Stp.refl hm) r2
        rcases q with q | q
        · exact ⟨_, ix_list, a, vs, i, v, rfl, rfl, q, q2, qq⟩
        · exact ⟨_, ix_tup, a, vs, i, v, rfl, rfl, q, q2, qq⟩
  · exact h.elim
theorem dget_ok {ρ : List Addr} {μ : Mem} {σ : L2.St} {H : Hp} {u w : U} {x y : V} {Q : VK} {kus : List (Key × U)} (hm : RepM X.K H ρ μ) (ru : RepV X.K H ρ u x) (rw' : RepV X.K H ρ w y) (hd : dctU μ u = some kus) (h : Post X W σ relV ρ H (ixU u w μ) Q) :
    ∃ a v, x = .ref a ∧ DGet H a y (some v) ∧ Q v H := by
  unfold ixU at h
  rw [hd] at h
  simp only at h
  cases ek : keyU w with
  | none => rw [ek] at h; exact h.elim
  | some k =>
    rw [ek] at h
    simp only at h
    cases ev : valU kus k with
    | none => rw [ev] at h; exact h.elim
    | some z =>
      rw [ev] at h
      cases ru with
      | ref hr =>
        rename_i i a
        have e1 : μ[i]? = some (.dct kus) := by
          unfold dctU at hd
          simp only at hd
          split at hd
          all_goals first
            | (cases hd; assumption)
            | (cases hd; done)
        obtain ⟨kvs, q1, r1⟩ := dct_of hm hr e1
        obtain ⟨v, q2, r2⟩ := r1.val.1 z ev
        refine ⟨a, v, rfl, ?_, h.ok (Stp.refl hm) r2⟩
        rw [keyU_ok rw' ek, ← q2]
        exact DGet.k q1
      | _ => simp [dctU] at hd
theorem ce_sub {a b : Expr} {ma mb : FE} {pos : Pos} (G : Good X W (k + 40)) (ha : CE X W a ma) (hb : CE X W b mb) (hp : PlainIx b := by exact fun _ _ => rfl) (hn : NoSl b := by exact fun _ _ => rfl) : CE X W (.Subscript a b pos) (fOp ixU ma mb) := by
  intro ρ μ s σ H Q hs hm h
  by_cases hd : ∃ u μ1 w μ2 kus, ma s μ = .ok u μ1 ∧ mb s μ1 = .ok w μ2 ∧ dctU μ2 u = some kus
  · obtain ⟨u0, μ10, w0, μ20, kus, e1, e2, e3⟩ := hd
    refine ⟨_, pe_dget G.hu pe_w pe_w hn, ?_⟩
    unfold fOp at h
    rw [e1] at h
    refine ha ρ μ s σ H _ hs hm ?_
    rw [e1]
    intro x H1 ρ1 t1 r1
    have h1 : Post X W σ relV ρ H ((mb s μ10).bind fun w μ2 => ixU u0 w μ2) Q := h
    refine hb ρ1 μ10 s σ H1 _ (t1.s hs) t1.mem ?_
    rw [e2] at h1 ⊢
    intro y H2 ρ2 t2 r2
    have h2 : Post X W σ relV ρ H (ixU u0 w0 μ20) Q := h1
    refine dget_ok (W := W) (σ := σ) t2.mem (t2.v r1) r2 e3 ?_
    generalize ixU u0 w0 μ20 = z at h2
    cases z with
    | ok c m2 => exact fun v2 H3 ρ3 t3 q3 => h2 v2 H3 ρ3 ((t1.trans t2).trans t3) q3
    | ex c m2 => exact fun cls H3 ρ3 t3 e => h2 cls H3 ρ3 ((t1.trans t2).trans t3) e
    | bad => exact h2
  · refine ⟨_, pe_ix ix_w pe_w pe_w hp, ?_⟩
    have hd' : ∀ u μ1 w μ2, ma s μ = .ok u μ1 → mb s μ1 = .ok w μ2 → dctU μ2 u = none := fun u μ1 w μ2 e1 e2 => by
      cases e : dctU μ2 u with
      | none => rfl
      | some kus => exact absurd ⟨u, μ1, w, μ2, kus, e1, e2, e⟩ hd
    unfold fOp at h
    refine ha ρ μ s σ H _ hs hm ?_
    cases e1 : ma s μ with
    | ex c m => rw [e1] at h; exact h
    | bad => rw [e1] at h; exact h
    | ok u0 μ10 =>
      rw [e1] at h
      intro x H1 ρ1 t1 r1
      have h1 : Post X W σ relV ρ H ((mb s μ10).bind fun w μ2 => ixU u0 w μ2) Q := h
      refine hb ρ1 μ10 s σ H1 _ (t1.s hs) t1.mem ?_
      cases e2 : mb s μ10 with
      | ex c m => rw [e2] at h1; exact fun cls H3 ρ3 t3 e => h1 cls H3 ρ3 (t1.trans t3) e
      | bad => rw [e2] at h1; exact h1
      | ok w0 μ20 =>
        rw [e2] at h1
        intro y H2 ρ2 t2 r2
        have h2 : Post X W σ relV ρ H (ixU u0 w0 μ20) Q := h1
        refine ix_ok (W := W) (σ := σ) t2.mem (t2.v r1) r2 (hd' u0 μ10 w0 μ20 e1 e2) ?_
        generalize ixU u0 w0 μ20 = z at h2
        cases z with
        | ok c m2 => exact fun v2 H3 ρ3 t3 q3 => h2 v2 H3 ρ3 ((t1.trans t2).trans t3) q3
        | ex c m2 => exact fun cls H3 ρ3 t3 e => h2 cls H3 ρ3 ((t1.trans t2).trans t3) e
        | bad => exact h2

/-! ### slices -/
abbrev FO := Slots → Mem → Res (Option Int)
def WO (X : Cx) (e : Option Expr) : TO := fun σ H Q => ∃ t, PO X e t ∧ t σ H Q
theorem po_w {e : Option Expr} : PO X e (WO X e) := ⟨fun pins s σ H Q I ⟨_, h, q⟩ => h.run pins s σ H Q I q⟩
def CO (X : Cx) (W : WX) (e : Option Expr) (m : FO) : Prop := ∀ ρ μ s σ H Q, RepS X.K H ρ s σ → RepM X.K H ρ μ → Post X W σ relO ρ H (m s μ) Q → WO X e σ H Q
def oNone : FO := fun _ μ => .ok none μ
def oSome (a : FE) : FO := fun s μ => (a s μ).bind fun u μ1 => match u with
  | .int i => .ok (some i) μ1
  | _ => .bad
theorem co_none : CO X W none oNone := fun ρ μ s σ H Q hs hm h => ⟨_, po_none, h.ok (Stp.refl hm) rfl⟩
theorem co_some {e : Expr} {me : FE} (he : CE X W e me) : CO X W (some e) (oSome me) := by
  intro ρ μ s σ H Q hs hm h
  refine ⟨_, po_some pe_w, ?_⟩
  refine he ρ μ s σ H _ hs hm (h.bind fun u μ1 x H1 ρ1 t1 r1 h1 => ?_)
  split at h1
  · cases r1
    exact ⟨_, rfl, h1.ok (Stp.refl t1.mem) rfl⟩
  · exact h1.elim
def SlW (X : Cx) : V → Option Int → Option Int → Hp → VK → Prop := fun x lo hi H Q => ∃ r, SlR X r ∧ r x lo hi H Q
theorem sl_w : SlR X (SlW X) := fun pins s σ H x v vl vu lo hi sl Q I rx hs pl pu ⟨_, h, q⟩ => h pins s σ H x v vl vu lo hi sl Q I rx hs pl pu q
def cutU {α : Type} (xs : List α) (lo hi : Option Int) : List α := (xs.drop (HT.sIx xs.length 0 lo)).take (HT.sIx xs.length xs.length hi - HT.sIx xs.length 0 lo)
theorem RepVs.cut {K : PySem.W.Frag} {H : Hp} {ρ : List Addr} {us : List U} {vs : List V} (r : RepVs K H ρ us vs) (lo hi : Option Int) : RepVs K H ρ (cutU us lo hi) (cutV vs lo hi) := by
  unfold cutU cutV
  rw [r.length]
  exact (r.drop _).take _
def slU (u : U) (lo hi : Option Int) (μ : Mem) : Res U := match u with
  | .str z => if z.length ≤ lim then .ok (.str (cutS z lo hi)) μ else .bad
  | .tup us => .ok (.tup (cutU us lo hi)) μ
  | u => match lstU μ u with
    | some us => .ok (.ref μ.length) (μ ++ [.lst (cutU us lo hi)])
    | none => .bad
def fSl (a : FE) (lo hi : FO) : FE := fun s μ => (a s μ).bind fun u μ1 => (lo s μ1).bind fun l μ2 => (hi s μ2).bind fun h μ3 => slU u l h μ3
theorem strOk_cut {z : Str} (h : PyData.strOk z = true) (lo hi : Option Int) : PyData.strOk (cutS z lo hi) = true := by
  unfold PyData.strOk at *
  rw [Array.all_eq_true'] at *
  intro x hx
  apply h x
  have h1 : x ∈ (z.cps.toList.drop (HT.sIx z.length 0 lo)).take (HT.sIx z.length z.length hi - HT.sIx z.length 0 lo) := by simpa [cutS] using hx
  exact Array.mem_toList_iff.mp (List.mem_of_mem_drop (List.mem_of_mem_take h1))
theorem cut_whole {α : Type} {xs : List α} {lo hi : Option Int} (h : HT.sIx xs.length 0 lo = 0 ∧ HT.sIx xs.length xs.length hi = xs.length) : cutU xs lo hi = xs := by
  unfold cutU
  rw [h.1, h.2, List.drop_zero, Nat.sub_zero, List.take_length]
theorem ce_slice {e : Expr} {lo hi : Option Expr} {me : FE} {ml mh : FO} {p2 pos : Pos} (he : CE X W e me) (hl : CO X W lo ml) (hh : CO X W hi mh) : CE X W (.Subscript e (.Slice lo hi none p2) pos) (fSl me ml mh) := by
  intro ρ μ s σ H Q hs hm h
  refine ⟨_, pe_slice sl_w pe_w po_w po_w, ?_⟩
  refine he ρ μ s σ H _ hs hm (h.bind fun u μ1 x H1 ρ1 t1 r1 h1 => ?_)
  refine hl ρ1 μ1 s σ H1 _ (t1.s hs) t1.mem (h1.bind fun a μ2 a' H2 ρ2 t2 r2 h2 => ?_)
  refine hh ρ2 μ2 s σ H2 _ (t2.s (t1.s hs)) t2.mem (h2.bind fun b μ3 b' H3 ρ3 t3 r3 h3 => ?_)
  cases r2
  cases r3
  have r4 := t3.v (t2.v r1)
  unfold slU at h3
  split at h3
  · cases r4 with
    | str hz =>
      split at h3
      · exact ⟨_, sl_str, _, rfl, lim_le (by assumption), h3.ok (Stp.refl t3.mem) (.str (strOk_cut hz _ _))⟩
      · exact h3.elim
  · cases r4 with
    | tup hs4 hr4 =>
      refine ⟨_, sl_tupA, _, _, rfl, hs4, fun c => ?_, fun c p np => h3.ok (Stp.temp t3.mem np) (newT np (hr4.cut _ _))⟩
      rw [← hr4.length] at c
      rw [cut_whole c] at h3
      exact h3.ok (Stp.refl t3.mem) (.tup hs4 hr4)
  · split at h3
    · rename_i us e1
      obtain ⟨p, vs, rfl, q1, r5⟩ := lstU_ok t3.mem r4 e1
      exact ⟨_, sl_list, _, _, rfl, q1, fun p np => h3.ok (newL t3.mem np (r5.cut _ _)) (refN t3.mem)⟩
    · exact h3.elim

/-! ### in -/
def inU (u w : U) (μ : Mem) : Option Bool := match w with
  | .str z => match u with
    | .str x => some (!(Builtin.Str.occurrences z x 0 z.length 1).isEmpty)
    | _ => none
  | w => match dctU μ w with
    | some kus => match keyU u with
      | some k => some (valU kus k).isSome
      | none => none
    | none => match seqU μ w with
      | some us => match datU μ u, toDs (refD μ 6) us with
        | some d, some ds => if d.depth ≤ 700 then some (ds.any fun y => PyData.eqv y d) else none
        | _, _ => none
      | none => none
def uIn (u w : U) (μ : Mem) : Res U := resB (inU u w μ) μ
def uNin (u w : U) (μ : Mem) : Res U := resB ((inU u w μ).map not) μ
def rInL (K : PySem.W.Frag) (neg : Bool) : R2 := fun x y H Q => ∃ d p xs ds, Dp K H x d ∧ y = .ref p ∧ (SqL K H p xs ∨ SqT K H p xs) ∧ DpAll K H xs ds ∧ d.canLay0 = true ∧ PyData.canLayAll0 ds = true ∧ d.depth ≤ 700 ∧ Q (.bl (if neg then !ds.any fun z => PyData.eqv z d else ds.any fun z => PyData.eqv z d)) H
theorem op_inL (hu : X.A.units + 800 < cLine) : OpR X (compareOp .In) (rInL X.K false) := by
  intro pins s σ H x y v u Q I rx ry h
  obtain ⟨d, p, xs, ds, hd, rfl, hq, he, sd, se, hl, q⟩ := h
  obtain ⟨as, r1⟩ := Dp.reads I d x v hd rx
  have hroom : X.A.units + 1 + min (PyData.depthAll ds) d.depth < cLine := by
    have h2 : min (PyData.depthAll ds) d.depth ≤ d.depth := Nat.min_le_right _ _
    omega
  rcases hq with hq | hq
  · obtain ⟨bs, r2⟩ := Dp.reads I (.list ds) (.ref p) u (.lst hq he) ry
    exact SeqAt.in_list_reads r2 r1 se sd hroom ⟨.bl _, H, I, rfl, q⟩
  · obtain ⟨bs, r2⟩ := Dp.reads I (.tuple ds) (.ref p) u (.tup hq he) ry
    exact SeqAt.in_tuple_reads r2 r1 se sd hroom ⟨.bl _, H, I, rfl, q⟩
theorem op_ninL (hu : X.A.units + 800 < cLine) : OpR X (compareOp .NotIn) (rInL X.K true) := by
  intro pins s σ H x y v u Q I rx ry h
  obtain ⟨d, p, xs, ds, hd, rfl, hq, he, sd, se, hl, q⟩ := h
  obtain ⟨as, r1⟩ := Dp.reads I d x v hd rx
  have hroom : X.A.units + 1 + min (PyData.depthAll ds) d.depth < cLine := by
    have h2 : min (PyData.depthAll ds) d.depth ≤ d.depth := Nat.min_le_right _ _
    omega
  rcases hq with hq | hq
  · obtain ⟨bs, r2⟩ := Dp.reads I (.list ds) (.ref p) u (.lst hq he) ry
    exact SeqAt.notIn_list_reads r2 r1 se sd hroom ⟨.bl _, H, I, rfl, q⟩
  · obtain ⟨bs, r2⟩ := Dp.reads I (.tuple ds) (.ref p) u (.tup hq he) ry
    exact SeqAt.notIn_tuple_reads r2 r1 se sd hroom ⟨.bl _, H, I, rfl, q⟩
/-- in a dict, by values -/
theorem op_inDc (hu : X.A.units + 1 < cLine) : OpR X (compareOp .In) (fun x y H Q => ∃ a o, y = .ref a ∧ DGet H a x o ∧ Q (.bl o.isSome) H) := by
  intro pins s σ H x y v u Q I rx ry h
  obtain ⟨a, o, rfl, g, q⟩ := h
  cases ry
  exact d_in hu I g rx fun s3 I3 => ⟨.bl o.isSome, H, I3, rfl, q⟩
theorem op_ninDc (hu : X.A.units + 1 < cLine) : OpR X (compareOp .NotIn) (fun x y H Q => ∃ a o, y = .ref a ∧ DGet H a x o ∧ Q (.bl (!o.isSome)) H) := by
  intro pins s σ H x y v u Q I rx ry h
  obtain ⟨a, o, rfl, g, q⟩ := h
  cases ry
  exact d_notIn hu I g rx fun s3 I3 => ⟨.bl (!o.isSome), H, I3, rfl, q⟩
theorem dct_at {K : PySem.W.Frag} {ρ : List Addr} {μ : Mem} {H : Hp} {u : U} {x : V} {kus : List (Key × U)} (hm : RepM K H ρ μ) (ru : RepV K H ρ u x) (hd : dctU μ u = some kus) : ∃ a kvs, x = .ref a ∧ H a = some (.dK kvs) ∧ RepKV K H ρ kus kvs := by
  cases ru with
  | ref hr =>
    rename_i i a
    have e1 : μ[i]? = some (.dct kus) := by
      unfold dctU at hd
      simp only at hd
      split at hd
      all_goals first
        | (cases hd; assumption)
        | (cases hd; done)
    obtain ⟨kvs, q1, r1⟩ := dct_of hm hr e1
    exact ⟨a, kvs, rfl, q1, r1⟩
  | _ => simp [dctU] at hd
def InV (K : PySem.W.Frag) (H : Hp) (x y : V) (b : Bool) : Prop :=
  (∃ d p xs ds, Dp K H x d ∧ y = .ref p ∧ (SqL K H p xs ∨ SqT K H p xs) ∧ DpAll K H xs ds ∧ d.canLay0 = true ∧ PyData.canLayAll0 ds = true ∧ d.depth ≤ 700 ∧ b = ds.any fun z => PyData.eqv z d) ∨
  (∃ a o, y = .ref a ∧ DGet H a x o ∧ b = o.isSome) ∨ ∃ i j, x = .str i ∧ y = .str j ∧ b = !(Builtin.Str.occurrences j i 0 j.length 1).isEmpty
theorem in_ok {K : PySem.W.Frag} {H : Hp} {ρ : List Addr} {μ : Mem} {u w : U} {x y : V} {b : Bool} (hm : RepM K H ρ μ) (ru : RepV K H ρ u x) (rw' : RepV K H ρ w y) (e : inU u w μ = some b) : InV K H x y b := by
  have main : ∀ w' : U, w' = w → (match dctU μ w' with
    | some kus => match keyU u with
      | some k => some (valU kus k).isSome
      | none => none
    | none => match seqU μ w' with
      | some us => match datU μ u, toDs (refD μ 6) us with
        | some d, some ds => if d.depth ≤ 700 then some (ds.any fun y => PyData.eqv y d) else none
        | _, _ => none
      | none => none) = some b → InV K H x y b := by
    intro w' ew h
    subst ew
    cases hd : dctU μ w' with
    | some kus =>
      rw [hd] at h
      simp only at h
      obtain ⟨a, kvs, rfl, q1, r1⟩ := dct_at hm rw' hd
      cases ek : keyU u with
      | none => rw [ek] at h; cases h
      | some k =>
        rw [ek] at h
        cases h
        refine .inr (.inl ⟨a, valV kvs k, rfl, ?_, ?_⟩)
        · rw [keyU_ok ru ek]; exact DGet.k q1
        · cases ev : valU kus k with
          | none => rw [r1.val.2 ev]; rfl
          | some z => obtain ⟨v, q2, _⟩ := r1.val.1 z ev; rw [q2]; rfl
    | none =>
      rw [hd] at h
      simp only at h
      cases es : seqU μ w' with
      | none => rw [es] at h; cases h
      | some us =>
        rw [es] at h
        simp only at h
        obtain ⟨a, vs, rfl, q, r⟩ := seqU_ok hm rw' es
        cases e1 : datU μ u with
        | none => rw [e1] at h; cases h
        | some d =>
          cases e2 : toDs (refD μ 6) us with
          | none => rw [e1, e2] at h; cases h
          | some ds =>
            rw [e1, e2] at h
            simp only at h
            obtain ⟨a1, a2⟩ := datU_ok hm ru e1
            obtain ⟨b1, b2⟩ := toDs_ok (refD_ok hm 6) us vs ds r e2
            split at h
            · cases h
              exact .inl ⟨d, a, vs, ds, a1, rfl, q, b1, a2, b2, by assumption, rfl⟩
            · cases h
  cases w with
  | str z =>
    cases rw'
    cases u with
    | str s =>
      cases ru
      simp only [inU, Option.some.injEq] at e
      exact .inr (.inr ⟨s, z, rfl, rfl, e.symm⟩)
    | _ => simp [inU] at e
  | non => exact main _ rfl e
  | bl b => exact main _ rfl e
  | int b => exact main _ rfl e
  | tup b => exact main _ rfl e
  | ref b => exact main _ rfl e
  | frl b => exact main _ rfl e
theorem os_in (G : Good X W (k + 40)) : OpS X W (compareOp .In) uIn := by
  intro ρ μ σ H u w x y Q hm ru rw' h
  unfold uIn at h
  cases e : inU u w μ with
  | none => rw [e] at h; exact h.elim
  | some b =>
    rw [e] at h
    have q := h.ok (Stp.refl hm) (RepV.bl (b := b))
    rcases in_ok hm ru rw' e with ⟨d, p, xs, ds, a1, a2, a3, a4, a5, a6, a7, rfl⟩ | ⟨a, o, a1, a2, rfl⟩ | ⟨i, j, a1, a2, rfl⟩
    · exact ⟨_, op_inL G.un, d, p, xs, ds, a1, a2, a3, a4, a5, a6, a7, q⟩
    · exact ⟨_, op_inDc G.hu, a, o, a1, a2, q⟩
    · exact ⟨_, op_in_str, i, j, a1, a2, q⟩
theorem os_nin (G : Good X W (k + 40)) : OpS X W (compareOp .NotIn) uNin := by
  intro ρ μ σ H u w x y Q hm ru rw' h
  unfold uNin at h
  cases e : inU u w μ with
  | none => rw [e] at h; exact h.elim
  | some b =>
    rw [e] at h
    have q := h.ok (Stp.refl hm) (RepV.bl (b := !b))
    rcases in_ok hm ru rw' e with ⟨d, p, xs, ds, a1, a2, a3, a4, a5, a6, a7, rfl⟩ | ⟨a, o, a1, a2, rfl⟩ | ⟨i, j, a1, a2, rfl⟩
    · exact ⟨_, op_ninL G.un, d, p, xs, ds, a1, a2, a3, a4, a5, a6, a7, q⟩
    · exact ⟨_, op_ninDc G.hu, a, o, a1, a2, q⟩
    · exact ⟨_, op_notin_str, i, j, a1, a2, q⟩

/-! ### isinstance of a built-in class -/
def tyU (μ : Mem) : U → Option String
  | .non => some "NoneType"
  | .bl _ => some "bool"
  | .int _ => some "int"
  | .str _ => some "str"
  | .tup _ => some "tuple"
  | .ref i => match μ[i]? with
    | some (.lst _) => some "list"
    | some (.dct _) => some "dict"
    | some (.fdc _) => none
    | some (.dtt _) => none
    | some (.fdt _) => none
    | some (.obj _ _) => none
    | none => none
  | .frl _ => some "list"
theorem tyU_ok {K : PySem.W.Frag} {H : Hp} {ρ : List Addr} {μ : Mem} (hm : RepM K H ρ μ) {u : U} {v : V} {t : String} (r : RepV K H ρ u v) (e : tyU μ u = some t) : TyX K H v (.type t) := by
  cases r with
  | non => cases e; exact .base .non
  | bl => cases e; exact .base (.bl _)
  | int => cases e; exact .base (.int _)
  | str _ => cases e; exact .base (.str _)
  | tup hs _ =>
    cases e
    rcases hs with (h | ⟨o, h⟩) | ⟨o, its, n, h, c, _⟩
    · exact .base (.tup h)
    · exact .fTuple h
    · exact .kTuple h c
  | ref hr =>
    obtain ⟨c, hc, rc⟩ := hm.at hr
    simp only [tyU, hc] at e
    cases c with
    | lst us => obtain ⟨vs, q, _⟩ := rc; cases e; exact .base (.lst q)
    | dct us => obtain ⟨vs, q, _⟩ := rc; cases e; exact .base (.dK q)
    | _ => cases e
  | frl hs _ =>
    cases e
    rcases hs with ⟨o, h⟩ | ⟨o, its, n, h, c, _⟩
    · exact .base (.frz h)
    · exact .kList h c
def isTy (T : String) (t : String) : Bool := t == T || (T == "int" && t == "bool")
def fIsi (T : String) (a : FE) : FE := fun s μ => (a s μ).bind fun u μ1 => match tyU μ1 u with
  | some t => .ok (.bl (isTy T t)) μ1
  | none => .bad
theorem kitK {K : PySem.W.Frag} {T : String} (hT : ∀ t ∈ ["NoneType", "bool", "int", "str", "tuple", "list", "dict"], kitB t T = some (isTy T t)) {μ : Mem} {u : U} {t : String} (e : tyU μ u = some t) : PySem.W.kitOne K (.type t) (.type T) = some (isTy T t) := by
  apply kit_ty
  apply hT
  cases u with
  | ref i =>
    simp only [tyU] at e
    split at e <;> first | (cases e; simp) | cases e
  | _ => cases e; simp
theorem ce_isi {T : String} {x : Str} {a : Expr} {ma : FE} {p p2 pos : Pos} (hT : ∀ t ∈ ["NoneType", "bool", "int", "str", "tuple", "list", "dict"], kitB t T = some (isTy T t)) (ha : CE X W a ma)
    (hT2 : PE X (.Name x p2) (tC (.ty T)))
    (hp : ∀ {r : List V → Hp → VK → Prop} {t : TA}, CallR X (.builtin "isinstance") r → PA X [a, .Name x p2] t → PE X (.Call (.Name "isinstance" p) [a, .Name x p2] [] pos) (tCB r t))
    (hs1 : starEach [a, .Name x p2] X.env = (false, eval a X.env) :: starEach [.Name x p2] X.env := by rfl) (hs2 : starEach [.Name x p2] X.env = (false, eval (.Name x p2) X.env) :: starEach [] X.env := by rfl) :
    CE X W (.Call (.Name "isinstance" p) [a, .Name x p2] [] pos) (fIsi T ma) := by
  intro ρ μ s σ H Q hs hm h
  refine ⟨_, hp call_isi (pa_cons pe_w (pa_cons hT2 pa_nil hs2) hs1), ?_⟩
  refine ha ρ μ s σ H _ hs hm (h.bind fun u μ1 v H1 ρ1 t1 r1 h1 => ?_)
  cases e : tyU μ1 u with
  | none => rw [e] at h1; exact h1.elim
  | some t =>
    rw [e] at h1
    exact ⟨v, .ty T, .type t, .type T, isTy T t, rfl, .ty T, tyU_ok t1.mem r1 e, kitK hT e, h1.ok (Stp.refl t1.mem) .bl⟩

/-! ### methods of lists -/
def MtW (X : Cx) (id : String) : V → List V → Hp → VK → Prop := fun x vs H Q => ∃ r, MtR X id r ∧ r x vs H Q
theorem mt_w {id : String} : MtR X id (MtW X id) := fun pins s σ H x xs v us Q I rx rxs ⟨_, h, q⟩ => h pins s σ H x xs v us Q I rx rxs q
def fMt (g : U → List U → Mem → Res U) (o : FE) (a : FA) : FE := fun s μ => (o s μ).bind fun u μ1 => (a s μ1).bind fun us μ2 => g u us μ2
/-- the receiver is known to be a list ahead of the arguments -/
def fMtL (g : U → List U → Mem → Res U) (o : FE) (a : FA) : FE := fun s μ => (o s μ).bind fun u μ1 => match lstU μ1 u with
  | some _ => (a s μ1).bind fun us μ2 => g u us μ2
  | none => .bad
def MtS (X : Cx) (W : WX) (id : String) (g : U → List U → Mem → Res U) : Prop := ∀ ρ μ σ H u us x vs Q, RepM X.K H ρ μ → RepV X.K H ρ u x → RepVs X.K H ρ us vs → Post X W σ relV ρ H (g u us μ) Q → MtW X id x vs H Q
theorem ce_mtL {id : String} {name : Str} {o e : Expr} {es : List Expr} {mo : FE} {ma : FA} {g : U → List U → Mem → Res U} {apos cpos : Pos} (hg : MtS X W id g) (ho : CE X W o mo) (ha : CA X W (e :: es) ma)
    (hp : ∀ {r : V → List V → Hp → VK → Prop} {to : TE} {t : TA}, MtR X id r → PE X o to → PA X (e :: es) t → PE X (.Call (.Attribute o name apos) (e :: es) [] cpos) (tBM X.K "list" r to t)) : CE X W (.Call (.Attribute o name apos) (e :: es) [] cpos) (fMtL g mo ma) := by
  intro ρ μ s σ H Q hs hm h
  refine ⟨_, hp mt_w pe_w pa_w, ?_⟩
  refine ho ρ μ s σ H _ hs hm (h.bind fun u μ1 x H1 ρ1 t1 r1 h1 => ?_)
  split at h1
  · rename_i us e
    obtain ⟨a, vs, rfl, q, _⟩ := lstU_ok t1.mem r1 e
    refine ⟨.inl ⟨rfl, vs, q⟩, ?_⟩
    exact ha ρ1 μ1 s σ H1 _ (t1.s hs) t1.mem (h1.bind fun us μ2 vs H2 ρ2 t2 r2 h2 => hg ρ2 μ2 σ H2 u us _ vs Q t2.mem (t2.v r1) r2 h2)
  · exact h1.elim
theorem ce_mtL0 {id : String} {name : Str} {o : Expr} {mo : FE} {g : U → List U → Mem → Res U} {apos cpos : Pos} (hg : MtS X W id g) (ho : CE X W o mo)
    (hp : ∀ {r : V → List V → Hp → VK → Prop} {to : TE}, MtR X id r → PE X o to → PE X (.Call (.Attribute o name apos) [] [] cpos) (tBM0 X.K "list" r to)) : CE X W (.Call (.Attribute o name apos) [] [] cpos) (fMtL g mo aNil) := by
  intro ρ μ s σ H Q hs hm h
  refine ⟨_, hp mt_w pe_w, ?_⟩
  refine ho ρ μ s σ H _ hs hm (h.bind fun u μ1 x H1 ρ1 t1 r1 h1 => ?_)
  split at h1
  · rename_i us e
    obtain ⟨a, vs, rfl, q, _⟩ := lstU_ok t1.mem r1 e
    exact ⟨.inl ⟨rfl, vs, q⟩, hg ρ1 μ1 σ H1 u [] _ [] Q t1.mem r1 .nil h1⟩
  · exact h1.elim
def gAppend (u : U) (us : List U) (μ : Mem) : Res U := match u, us with
  | .ref i, [w] => match μ[i]? with
    | some (.lst xs) => if xs.length < lim then .ok .non (μ.set i (.lst (xs ++ [w]))) else .bad
    | _ => .bad
  | _, _ => .bad
theorem gs_append : MtS X W "list.append" gAppend := by
  intro ρ μ σ H u us x vs Q hm ru rus h
  unfold gAppend at h
  split at h
  · split at h
    · rename_i e
      split at h
      · cases ru with
        | ref hr =>
          cases rus with
          | cons r1 r2 =>
            cases r2
            obtain ⟨ws, q, rr⟩ := lst_of hm hr e
            exact ⟨_, mt_append, _, ws, _, rfl, rfl, q, by rw [← rr.length]; exact lim_lt (by assumption), h.ok (putL hm hr e (rr.append (.one r1))) .non⟩
      · exact h.elim
    · exact h.elim
  · exact h.elim
def gExtend (u : U) (us : List U) (μ : Mem) : Res U := match u, us with
  | .ref i, [.ref j] => match μ[i]?, μ[j]? with
    | some (.lst xs), some (.lst ys) => if xs.length + ys.length ≤ lim then .ok .non (μ.set i (.lst (xs ++ ys))) else .bad
    | _, _ => .bad
  | _, _ => .bad
theorem gs_extend : MtS X W "list.extend" gExtend := by
  intro ρ μ σ H u us x vs Q hm ru rus h
  unfold gExtend at h
  split at h
  · split at h
    · rename_i e e2
      split at h
      · cases ru with
        | ref hr =>
          cases rus with
          | cons r1 r2 =>
            cases r2
            cases r1 with
            | ref hr2 =>
              obtain ⟨ws, q, rr⟩ := lst_of hm hr e
              obtain ⟨zs, q2, rr2⟩ := lst_of hm hr2 e2
              exact ⟨_, mt_extend, _, _, ws, zs, rfl, rfl, q, q2, by rw [← rr.length, ← rr2.length]; exact lim_le (by assumption), h.ok (putL hm hr e (rr.append rr2)) .non⟩
      · exact h.elim
    · exact h.elim
  · exact h.elim
theorem RepVs.dropLast {K : PySem.W.Frag} {H : Hp} {ρ : List Addr} {us : List U} {vs : List V} (r : RepVs K H ρ us vs) : RepVs K H ρ us.dropLast vs.dropLast := by
  rw [List.dropLast_eq_take, List.dropLast_eq_take, r.length]
  exact r.take _
def gPop (u : U) (us : List U) (μ : Mem) : Res U := match u, us with
  | .ref i, [] => match μ[i]? with
    | some (.lst xs) => match xs[xs.length - 1]? with
      | some w => .ok w (μ.set i (.lst xs.dropLast))
      | none => .bad
    | _ => .bad
  | _, _ => .bad
theorem gs_pop : MtS X W "list.pop" gPop := by
  intro ρ μ σ H u us x vs Q hm ru rus h
  unfold gPop at h
  split at h
  · split at h
    · rename_i xs e
      split at h
      · rename_i w e2
        cases ru with
        | ref hr =>
          cases rus
          obtain ⟨ws, q, rr⟩ := lst_of hm hr e
          obtain ⟨z, q2, r2⟩ := rr.get e2
          have t := putL hm hr e rr.dropLast
          exact ⟨_, mt_pop, _, ws, z, rfl, rfl, q, by rw [← rr.length]; exact q2, h.ok t (t.v r2)⟩
      · exact h.elim
    · exact h.elim
  · exact h.elim
theorem RepVs.eraseIdx {K : PySem.W.Frag} {H : Hp} {ρ : List Addr} : ∀ {us : List U} {vs : List V} (n : Nat), RepVs K H ρ us vs → RepVs K H ρ (us.eraseIdx n) (vs.eraseIdx n)
  | _, _, _, .nil => .nil
  | _, _, 0, .cons _ r => r
  | _, _, n + 1, .cons h r => .cons h (RepVs.eraseIdx n r)
def gPopAt (u : U) (us : List U) (μ : Mem) : Res U := match u, us with
  | .ref i, [.int n] => match μ[i]? with
    | some (.lst xs) => if -(2 ^ 63) ≤ n ∧ n < 2 ^ 63 then match seqIndex? n xs.length with
      | some j => match xs[j]? with
        | some w => .ok w (μ.set i (.lst (xs.eraseIdx j)))
        | none => .bad
      | none => .bad
      else .bad
    | _ => .bad
  | _, _ => .bad
theorem gs_popAt : MtS X W "list.pop" gPopAt := by
  intro ρ μ σ H u us x vs Q hm ru rus h
  unfold gPopAt at h
  split at h
  · split at h
    · rename_i xs e
      split at h
      · rename_i hz
        split at h
        · rename_i j ej
          split at h
          · rename_i w e2
            cases ru with
            | ref hr =>
              cases rus with
              | cons r1 r0 =>
                cases r0
                cases r1
                obtain ⟨ws, q, rr⟩ := lst_of hm hr e
                obtain ⟨z, q2, r2⟩ := rr.get e2
                have t := putL hm hr e (rr.eraseIdx j)
                exact ⟨_, mt_popAt, _, ws, _, j, z, rfl, rfl, q, hz.1, hz.2, by rw [← rr.length]; exact ej, q2, h.ok t (t.v r2)⟩
          · exact h.elim
        · exact h.elim
      · exact h.elim
    · exact h.elim
  · exact h.elim
end
end Dg
/-! Dg5: statements, loops, comprehensions, calls of defs, a def by its body. -/
namespace Dg
open PySem PySem.Spec PyProof.Rows L2 RZ

/-! ### what is wanted behind a statement -/
def PostS (X : Cx) (W : WX) (ρ : List Addr) (H : Hp) (o : Out) (D : Ends) : Prop := match o with
  | .nx s' μ' => ∀ σ' H' ρ', Stp X.K ρ H ρ' H' μ' → RepS X.K H' ρ' s' σ' → D.nx σ' H'
  | .rt u μ' => ∀ v H' ρ', Stp X.K ρ H ρ' H' μ' → RepV X.K H' ρ' u v → D.rt v H'
  | .bk s' μ' => ∀ σ' H' ρ', Stp X.K ρ H ρ' H' μ' → RepS X.K H' ρ' s' σ' → D.bk σ' H'
  | .ct s' μ' => ∀ σ' H' ρ', Stp X.K ρ H ρ' H' μ' → RepS X.K H' ρ' s' σ' → D.ct σ' H'
  | .ex c s' μ' => ∀ cls σ' H' ρ', Stp X.K ρ H ρ' H' μ' → RepS X.K H' ρ' s' σ' → X.mg c = some cls → W cls none σ' H'
  | .bad => False
def ofR {α : Type} (r : Res α) (s : Slots) (k : α → Mem → Out) : Out := match r with
  | .ok a μ => k a μ
  | .ex c μ => .ex c s μ
  | .bad => .bad
theorem PostS.from {X : Cx} {W : WX} {ρ ρ1 : List Addr} {H H1 : Hp} {μ1 : Mem} {o : Out} {D : Ends} (t : Stp X.K ρ H ρ1 H1 μ1) (h : PostS X W ρ H o D) : PostS X W ρ1 H1 o D := by
  cases o with
  | nx s m => exact fun σ' H' ρ' t' r => h σ' H' ρ' (t.trans t') r
  | rt u m => exact fun σ' H' ρ' t' r => h σ' H' ρ' (t.trans t') r
  | bk s m => exact fun σ' H' ρ' t' r => h σ' H' ρ' (t.trans t') r
  | ct s m => exact fun σ' H' ρ' t' r => h σ' H' ρ' (t.trans t') r
  | ex c s m => exact fun cls σ' H' ρ' t' r e => h cls σ' H' ρ' (t.trans t') r e
  | bad => exact h
theorem PostS.bind {α β : Type} {X : Cx} {W : WX} {σ : L2.St} {rel : RelT α β} {ρ : List Addr} {H : Hp} {r : Res α} {s : Slots} {k : α → Mem → Out} {D : Ends} {Q1 : β → Hp → Prop} (hs : RepS X.K H ρ s σ)
    (h : PostS X W ρ H (ofR r s k) D) (hk : ∀ a μ1 x H1 ρ1, Stp X.K ρ H ρ1 H1 μ1 → rel X.K H1 ρ1 a x → PostS X W ρ1 H1 (k a μ1) D → Q1 x H1) : Post X W σ rel ρ H r Q1 := by
  cases r with
  | ok a m =>
    intro v H' ρ' t q
    exact hk a m v H' ρ' t q (PostS.from t h)
  | ex c m => exact fun cls H' ρ' t e => h cls σ H' ρ' t (t.s hs) e
  | bad => exact h
/-- the same out, other ends behind -/
theorem PostS.ends {X : Cx} {W : WX} {ρ : List Addr} {H : Hp} {o : Out} {D D' : Ends} (h : PostS X W ρ H o D) (n : ∀ s m, o = .nx s m → PostS X W ρ H o D') (r : D'.rt = D.rt) (b : ∀ s m, o = .bk s m → PostS X W ρ H o D') (c : ∀ s m, o = .ct s m → PostS X W ρ H o D') : PostS X W ρ H o D' := by
  cases o with
  | nx s m => exact n s m rfl
  | rt u m => exact fun v H' ρ' t' q => by rw [r]; exact h v H' ρ' t' q
  | bk s m => exact b s m rfl
  | ct s m => exact c s m rfl
  | ex c s m => exact h
  | bad => exact h

def WS (X : Cx) (st : Stmt) : TS := fun D σ H => ∃ t, PS X st t ∧ t D σ H
theorem ps_w {X : Cx} {st : Stmt} : PS X st (WS X st) := ⟨fun pins s σ H D I ⟨_, h, q⟩ => h.run pins s σ H D I q⟩
def WSs (X : Cx) (st : List Stmt) : TS := fun D σ H => ∃ t, PSs X st t ∧ t D σ H
theorem pss_w {X : Cx} {st : List Stmt} : PSs X st (WSs X st) := ⟨fun pins s σ H D I ⟨_, h, q⟩ => h.run pins s σ H D I q⟩
def CS (X : Cx) (W : WX) (st : Stmt) (m : FS) : Prop := ∀ ρ μ s σ H D, RepS X.K H ρ s σ → RepM X.K H ρ μ → PostS X W ρ H (m s μ) D → WS X st D σ H
def CSs (X : Cx) (W : WX) (st : List Stmt) (m : FS) : Prop := ∀ ρ μ s σ H D, RepS X.K H ρ s σ → RepM X.K H ρ μ → PostS X W ρ H (m s μ) D → WSs X st D σ H

section
variable {X : Cx} {W : WX} {k : Nat}
def sNext : FS := fun s μ => .nx s μ
def sSeq (a b : FS) : FS := fun s μ => match a s μ with
  | .nx s1 μ1 => b s1 μ1
  | o => o
theorem css_nil : CSs X W [] sNext := fun ρ μ s σ H D hs hm h => ⟨_, pss_nil, h σ H ρ (Stp.refl hm) hs⟩
theorem css_cons {st : Stmt} {rest : List Stmt} {a b : FS} (ha : CS X W st a) (hb : CSs X W rest b) : CSs X W (st :: rest) (sSeq a b) := by
  intro ρ μ s σ H D hs hm h
  refine ⟨_, pss_cons ps_w pss_w, ?_⟩
  refine ha ρ μ s σ H _ hs hm ?_
  unfold sSeq at h
  cases e : a s μ with
  | nx s1 μ1 =>
    rw [e] at h
    intro σ' H' ρ' t r
    exact hb ρ' μ1 s1 σ' H' D r t.mem (PostS.from t h)
  | rt u m => rw [e] at h; exact h
  | bk u m => rw [e] at h; exact h
  | ct u m => rw [e] at h; exact h
  | ex c u m => rw [e] at h; exact h
  | bad => rw [e] at h; exact h
theorem css_one {st : Stmt} {a : FS} (ha : CS X W st a) : CSs X W [st] a := fun ρ μ s σ H D hs hm h => ⟨_, pss_one ps_w, ha ρ μ s σ H D hs hm h⟩
theorem cs_pass {pos : Pos} : CS X W (.Pass pos) sNext := fun ρ μ s σ H D hs hm h => ⟨_, ps_pass, h σ H ρ (Stp.refl hm) hs⟩
def sBrk : FS := fun s μ => .bk s μ
def sCnt : FS := fun s μ => .ct s μ
theorem cs_brk {pos : Pos} : CS X W (.Break pos) sBrk := fun ρ μ s σ H D hs hm h => ⟨_, ps_break, h σ H ρ (Stp.refl hm) hs⟩
theorem cs_cnt {pos : Pos} : CS X W (.Continue pos) sCnt := fun ρ μ s σ H D hs hm h => ⟨_, ps_continue, h σ H ρ (Stp.refl hm) hs⟩
def sExpr (a : FE) : FS := fun s μ => ofR (a s μ) s fun _ μ1 => .nx s μ1
theorem cs_expr {e : Expr} {me : FE} {pos : Pos} (he : CE X W e me) (hs0 : swapsWith e none pos.line X.env = pure false := by rfl) : CS X W (.Expr e pos) (sExpr me) := by
  intro ρ μ s σ H D hs hm h
  refine ⟨_, ps_expr pe_w hs0, ?_⟩
  exact he ρ μ s σ H _ hs hm (PostS.bind hs h fun u μ1 x H1 ρ1 t1 r1 h1 => h1 σ H1 ρ1 (Stp.refl t1.mem) (t1.s hs))
def sRet (a : FE) : FS := fun s μ => ofR (a s μ) s fun u μ1 => .rt u μ1
theorem cs_ret {e : Expr} {me : FE} {pos : Pos} (he : CE X W e me) : CS X W (.Return (some e) pos) (sRet me) := by
  intro ρ μ s σ H D hs hm h
  refine ⟨_, ps_ret pe_w, ?_⟩
  exact he ρ μ s σ H _ hs hm (PostS.bind hs h fun u μ1 x H1 ρ1 t1 r1 h1 => h1 x H1 ρ1 (Stp.refl t1.mem) r1)
def sRetN : FS := fun _ μ => .rt .non μ
theorem cs_retN {pos : Pos} : CS X W (.Return none pos) sRetN := fun ρ μ s σ H D hs hm h => ⟨_, ps_retN, h _ H ρ (Stp.refl hm) .non⟩
def sIf (t : FT) (a b : FS) : FS := fun s μ => ofR (t s μ) s fun c μ1 => match c with
  | true => a s μ1
  | false => b s μ1
theorem cs_if {c : Expr} {p q : List Stmt} {tc : FT} {a b : FS} {pos : Pos} (hc : CT X W c tc) (ha : CSs X W p a) (hb : CSs X W q b) : CS X W (.If c p q pos) (sIf tc a b) := by
  intro ρ μ s σ H D hs hm h
  refine ⟨_, ps_if pt_w pss_w pss_w, ?_⟩
  refine hc ρ μ s σ H _ hs hm (PostS.bind hs h fun b μ1 x H1 ρ1 t1 r1 h1 => ?_)
  cases r1
  cases b with
  | true => exact iteT (ha ρ1 μ1 s σ H1 D (t1.s hs) t1.mem h1)
  | false => exact iteF (hb ρ1 μ1 s σ H1 D (t1.s hs) t1.mem h1)

/-! ### targets -/
inductive Tgt where
  | one (i : Nat)
  | tup (is : List Nat)
def setAll : List Nat → List U → Slots → Slots
  | i :: is, u :: us, s => setAll is us (s.set i (some u))
  | _, _, s => s
def setT (g : Tgt) (u : U) (s : Slots) : Option Slots := match g, u with
  | .one i, u => some (s.set i (some u))
  | .tup is, .tup us => if us.length = is.length then some (setAll is us s) else none
  | _, _ => none
def WG (X : Cx) (tg : Expr) : TG := fun v σ H Q => ∃ t, PG X tg t ∧ t v σ H Q
theorem pg_w {tg : Expr} : PG X tg (WG X tg) := ⟨fun pins s σ H v u Q I r ⟨_, h, q⟩ => h.run pins s σ H v u Q I r q⟩
def inT (g : Tgt) (vs : List Nat) : Prop := match g with
  | .one i => i ∈ vs
  | .tup is => ∀ i ∈ is, i ∈ vs
/-- what is stored lies as the mirror's slots; only the slots of the target change -/
def CG (X : Cx) (tg : Expr) (g : Tgt) : Prop := ∀ ρ s σ H u v s' (Q : L2.St → Hp → Prop), RepS X.K H ρ s σ → RepV X.K H ρ u v → setT g u s = some s' →
  (∀ σ', RepS X.K H ρ s' σ' → (∀ vs : List Nat, inT g vs → wipe σ' vs = wipe σ vs) → Q σ' H) → WG X tg v σ H Q
theorem wipe_set {σ : L2.St} {i : Nat} {x : Option V} : ∀ {vs : List Nat}, i ∈ vs → wipe (σ.set i x) vs = wipe σ vs
  | v :: vs, h => by
    show (wipe (σ.set i x) vs).set v none = (wipe σ vs).set v none
    by_cases e : v = i
    · subst e
      by_cases hv : v ∈ vs
      · rw [wipe_set hv]
      · have key : ∀ (ws : List Nat), v ∉ ws → wipe (σ.set v x) ws = (wipe σ ws).set v x := by
          intro ws
          induction ws with
          | nil => intro _; rfl
          | cons w ws ih =>
            intro hw
            simp only [List.mem_cons, not_or] at hw
            show (wipe (σ.set v x) ws).set w none = ((wipe σ ws).set w none).set v x
            rw [ih hw.2]
            exact List.set_comm _ _ hw.1
        rw [key vs hv, List.set_set]
    · have hv : i ∈ vs := by
        rcases List.mem_cons.mp h with q | q
        · exact absurd q.symm e
        · exact q
      rw [wipe_set hv]
theorem wipe_wipe {σ : L2.St} : ∀ {vs ws : List Nat}, (∀ i ∈ ws, i ∈ vs) → wipe (wipe σ ws) vs = wipe σ vs
  | vs, [], _ => rfl
  | vs, w :: ws, h => by
    show wipe ((wipe σ ws).set w none) vs = wipe σ vs
    rw [wipe_set (h w (by simp)), wipe_wipe (ws := ws) fun i hi => h i (by simp [hi])]
theorem cg_one {i : Nat} {x : Str} {pos : Pos} (hN : X.N.Nodup) (hi : X.N[i]? = some x) (hx : Loc X.env.scope x) (hf : X.fn x = true ∨ X.env.scope.names.lookup x = some .local := by first | exact .inl rfl | exact .inr rfl | assumption) : CG X (.Name x pos) (.one i) := by
  intro ρ s σ H u v s' Q hs r e h
  refine ⟨_, pg_name hN hi hx hf, ?_⟩
  cases e
  exact h _ (hs.set r) fun vs hv => wipe_set hv
/-- several names -/
def WGs (X : Cx) (ts : List Expr) : TGs := fun vs σ H Q => ∃ t, PGs X ts t ∧ t vs σ H Q
theorem pgs_w {ts : List Expr} : PGs X ts (WGs X ts) := ⟨fun pins s σ H vs us Q I r ⟨_, h, q⟩ => h.run pins s σ H vs us Q I r q⟩
def CGs (X : Cx) (ts : List Expr) (is : List Nat) : Prop := ∀ ρ s σ H us vs (Q : L2.St → Hp → Prop), RepS X.K H ρ s σ → RepVs X.K H ρ us vs → us.length = is.length →
  (∀ σ', RepS X.K H ρ (setAll is us s) σ' → (∀ ws : List Nat, (∀ i ∈ is, i ∈ ws) → wipe σ' ws = wipe σ ws) → Q σ' H) → WGs X ts vs σ H Q
theorem cgs_nil : CGs X [] [] := by
  intro ρ s σ H us vs Q hs r hl h
  refine ⟨_, pgs_nil, ?_⟩
  cases r with
  | nil => exact ⟨rfl, h σ hs fun _ _ => rfl⟩
  | cons _ _ => simp at hl
theorem cgs_cons {e : Expr} {es : List Expr} {i : Nat} {is : List Nat} (h1 : CG X e (.one i)) (h2 : CGs X es is) (hs0 : (assignEach (e :: es) X.env).map (·.2) = assign e X.env :: (assignEach es X.env).map (·.2) := by rfl) : CGs X (e :: es) (i :: is) := by
  intro ρ s σ H us vs Q hs r hl h
  refine ⟨_, pgs_cons pg_w pgs_w hs0, ?_⟩
  cases r with
  | nil => simp at hl
  | cons r1 r2 =>
    refine ⟨_, _, rfl, ?_⟩
    refine h1 ρ s σ H _ _ _ _ hs r1 rfl fun σ' hs' hw => ?_
    refine h2 ρ _ σ' H _ _ Q hs' r2 (by simpa using hl) fun σ2 hs2 hw2 => ?_
    exact h σ2 hs2 fun ws hws => (hw2 ws fun j hj => hws j (by simp [hj])).trans (hw ws (hws i (by simp)))
theorem cg_tup {es : List Expr} {is : List Nat} {j : Nat} {pos : Pos} (hc : X.calm = true) (h : CGs X es is) (hn : (assignEach es X.env).length = is.length := by rfl) (hst : (assignEach es X.env).findIdx? (·.1) = none := by rfl) : CG X (.Tuple es j pos) (.tup is) := by
  intro ρ s σ H u v s' Q hs r e q
  refine ⟨_, pg_tup hc pgs_w hn hst, ?_⟩
  cases r with
  | tup hs1 hr1 =>
    simp only [setT] at e
    split at e
    · rename_i hl
      cases e
      exact ⟨_, _, rfl, hs1, by rw [← hr1.length]; exact hl, h ρ s σ H _ _ Q hs hr1 hl fun σ' hs' hw => q σ' hs' hw⟩
    · cases e
  | _ => simp [setT] at e
/-- x = e; a, b = e -/
def sAsg (g : Tgt) (a : FE) : FS := fun s μ => ofR (a s μ) s fun u μ1 => match setT g u s with
  | some s1 => .nx s1 μ1
  | none => .bad
theorem cs_asg {tg e : Expr} {g : Tgt} {me : FE} {pos : Pos} (he : CE X W e me) (hg : CG X tg g) (hp : ∀ {te : TE} {gt : TG}, PE X e te → PG X tg gt → PS X (.Assign [tg] e pos) (tAsg te gt)) : CS X W (.Assign [tg] e pos) (sAsg g me) := by
  intro ρ μ s σ H D hs hm h
  refine ⟨_, hp pe_w pg_w, ?_⟩
  refine he ρ μ s σ H _ hs hm (PostS.bind hs h fun u μ1 x H1 ρ1 t1 r1 h1 => ?_)
  cases es : setT g u s with
  | none => rw [es] at h1; exact h1.elim
  | some s1 =>
    rw [es] at h1
    exact hg ρ1 s σ H1 u x s1 _ (t1.s hs) r1 es fun σ' hs' _ => h1 σ' H1 ρ1 (Stp.refl t1.mem) hs'
theorem cs_set {i : Nat} {x : Str} {e : Expr} {me : FE} {pos pos' : Pos} (hN : X.N.Nodup) (hi : X.N[i]? = some x) (hx : Loc X.env.scope x) (he : CE X W e me) (hs0 : swapsWith e (some (.Name x pos')) pos.line X.env = pure false := by rfl)
    (hf : X.fn x = true ∨ X.env.scope.names.lookup x = some .local := by first | exact .inl rfl | exact .inr rfl | assumption) : CS X W (.Assign [.Name x pos'] e pos) (sAsg (.one i) me) := by
  intro ρ μ s σ H D hs hm h
  refine ⟨_, ps_set hN hi hx pe_w hs0 hf, ?_⟩
  exact he ρ μ s σ H _ hs hm (PostS.bind hs h fun u μ1 x H1 ρ1 t1 r1 h1 => h1 _ H1 ρ1 (Stp.refl t1.mem) ((t1.s hs).set r1))
/-- a, b = e1, e2 -/
def sPar (i j : Nat) (a b : FE) : FS := fun s μ => ofR (a s μ) s fun u μ1 => ofR (b s μ1) s fun w μ2 => .nx ((s.set i (some u)).set j (some w)) μ2

/-! ### o[i] = e, d[k] = e -/
def stU (o i u : U) (μ : Mem) : Option Mem := match o with
  | .ref r => match μ[r]? with
    | some (.lst xs) => match i with
      | .int n => match ixN xs.length n with
        | some j => some (μ.set r (.lst (xs.set j u)))
        | none => none
      | _ => none
    | some (.dct kus) => match keyU i with
      | some k => if kus.length < lim then some (μ.set r (.dct (putU kus k u))) else none
      | none => none
    | _ => none
  | _ => none
def sStore (o i a : FE) : FS := fun s μ => ofR (a s μ) s fun u μ1 => ofR (o s μ1) s fun x μ2 => ofR (i s μ2) s fun y μ3 => match stU x y u μ3 with
  | some μ4 => .nx s μ4
  | none => .bad
theorem cs_store {o i e : Expr} {mo mi me : FE} {pos pos' : Pos} (G : Good X W (k + 40)) (ho : CE X W o mo) (hi : CE X W i mi) (he : CE X W e me)
    (h1 : ∀ {to ti te : TE}, PE X o to → PE X i ti → PE X e te → PS X (.Assign [.Subscript o i pos'] e pos) (tAsg te (gSub to ti rSetL)))
    (h2 : ∀ {to ti te : TE}, PE X o to → PE X i ti → PE X e te → PS X (.Assign [.Subscript o i pos'] e pos) (sDPut to ti te)) : CS X W (.Assign [.Subscript o i pos'] e pos) (sStore mo mi me) := by
  intro ρ μ s σ H D hs hm h
  by_cases hd : ∃ u μ1 x μ2 y μ3 kus, me s μ = .ok u μ1 ∧ mo s μ1 = .ok x μ2 ∧ mi s μ2 = .ok y μ3 ∧ dctU μ3 x = some kus
  · obtain ⟨u, μ1, x, μ2, y, μ3, kus, e1, e2, e3, e4⟩ := hd
    refine ⟨_, h2 pe_w pe_w pe_w, ?_⟩
    unfold sStore at h
    rw [e1] at h
    refine he ρ μ s σ H _ hs hm ?_
    rw [e1]
    intro uv H1 ρ1 t1 r1
    refine ho ρ1 μ1 s σ H1 _ (t1.s hs) t1.mem ?_
    have g1 : PostS X W ρ H (ofR (mo s μ1) s fun x μ2 => ofR (mi s μ2) s fun y μ3 => match stU x y u μ3 with
      | some μ4 => .nx s μ4
      | none => .bad) D := h
    rw [e2] at g1 ⊢
    intro xv H2 ρ2 t2 r2
    refine hi ρ2 μ2 s σ H2 _ (t2.s (t1.s hs)) t2.mem ?_
    have g2 : PostS X W ρ H (ofR (mi s μ2) s fun y μ3 => match stU x y u μ3 with
      | some μ4 => .nx s μ4
      | none => .bad) D := g1
    rw [e3] at g2 ⊢
    intro yv H3 ρ3 t3 r3
    have g3 : PostS X W ρ H (match stU x y u μ3 with
      | some μ4 => .nx s μ4
      | none => .bad) D := g2
    have g4 := PostS.from ((t1.trans t2).trans t3) g3
    cases es : stU x y u μ3 with
    | none => rw [es] at g4; exact g4.elim
    | some μ4 =>
      rw [es] at g4
      have r2' := t3.v r2
      obtain ⟨a, kvs, rfl, q1, rk⟩ := dct_at t3.mem r2' e4
      cases r2' with
      | ref hr =>
        rename_i r
        have em : μ3[r]? = some (.dct kus) := by
          unfold dctU at e4
          simp only at e4
          split at e4
          all_goals first
            | (cases e4; assumption)
            | (cases e4; done)
        simp only [stU, em] at es
        cases ek : keyU y with
        | none => rw [ek] at es; cases es
        | some k =>
          rw [ek] at es
          simp only at es
          split at es
          · rename_i hz
            cases es
            have ru := (t3.v (t2.v r1))
            refine ⟨a, _, rfl, ?_, g4 σ _ ρ3 (putD t3.mem hr em (rk.put ru)) ?_⟩
            · rw [keyU_ok r3 ek]
              exact DPut.k q1 (by rw [rk.length]; exact lim_lt hz)
            · exact (putD t3.mem hr em (rk.put ru)).s (t3.s (t2.s (t1.s hs)))
          · cases es
      | tup _ _ => simp [dctU] at e4
      | frl _ _ => simp [dctU] at e4
  · refine ⟨_, h1 pe_w pe_w pe_w, ?_⟩
    unfold sStore at h
    refine he ρ μ s σ H _ hs hm ?_
    cases e1 : me s μ with
    | ex c m => rw [e1] at h; exact fun cls H' ρ' t e => h cls σ H' ρ' t (t.s hs) e
    | bad => rw [e1] at h; exact h
    | ok u μ1 =>
      rw [e1] at h
      intro uv H1 ρ1 t1 r1
      refine ho ρ1 μ1 s σ H1 _ (t1.s hs) t1.mem ?_
      have g1 : PostS X W ρ1 H1 (ofR (mo s μ1) s fun x μ2 => ofR (mi s μ2) s fun y μ3 => match stU x y u μ3 with
        | some μ4 => .nx s μ4
        | none => .bad) D := PostS.from t1 h
      cases e2 : mo s μ1 with
      | ex c m => rw [e2] at g1; exact fun cls H' ρ' t e => g1 cls σ H' ρ' t (t.s (t1.s hs)) e
      | bad => rw [e2] at g1; exact g1
      | ok x μ2 =>
        rw [e2] at g1
        intro xv H2 ρ2 t2 r2
        refine hi ρ2 μ2 s σ H2 _ (t2.s (t1.s hs)) t2.mem ?_
        have g2 : PostS X W ρ2 H2 (ofR (mi s μ2) s fun y μ3 => match stU x y u μ3 with
          | some μ4 => .nx s μ4
          | none => .bad) D := PostS.from t2 g1
        cases e3 : mi s μ2 with
        | ex c m => rw [e3] at g2; exact fun cls H' ρ' t e => g2 cls σ H' ρ' t (t.s (t2.s (t1.s hs))) e
        | bad => rw [e3] at g2; exact g2
        | ok y μ3 =>
          rw [e3] at g2
          intro yv H3 ρ3 t3 r3
          have g4 : PostS X W ρ3 H3 (match stU x y u μ3 with
            | some μ4 => .nx s μ4
            | none => .bad) D := PostS.from t3 g2
          cases es : stU x y u μ3 with
          | none => rw [es] at g4; exact g4.elim
          | some μ4 =>
            rw [es] at g4
            have r2' := t3.v r2
            unfold stU at es
            split at es
            · rename_i r
              split at es
              · rename_i xs em
                split at es
                · rename_i n
                  split at es
                  · rename_i j ej
                    cases es
                    cases r2' with
                    | ref hr =>
                      cases r3
                      obtain ⟨ws, q, rr⟩ := lst_of t3.mem hr em
                      have t4 := putL t3.mem hr em (rr.set (t3.v (t2.v r1)) j)
                      exact ⟨_, ws, n, j, rfl, rfl, q, by rw [← rr.length]; exact ej, g4 σ _ ρ3 t4 (t4.s (t3.s (t2.s (t1.s hs))))⟩
                  · cases es
                · cases es
              · rename_i kus em
                exact absurd ⟨u, μ1, .ref r, μ2, y, μ3, kus, e1, e2, e3, by simp only [dctU, em]⟩ hd
              · cases es
            · cases es

/-! ### x += e -/
def sAug (i : Nat) (f : Int → Int → Int) (a : FE) : FS := fun s μ => match s[i]? with
  | some (some (.int x)) => ofR (a s μ) s fun u μ1 => match u with
    | .int y => .nx (s.set i (some (.int (f x y)))) μ1
    | _ => .bad
  | _ => .bad
theorem cs_aug {i : Nat} {x : Str} {e : Expr} {me : FE} {op : Operator} {f : Int → Int → Int} {pos pos' : Pos} (hN : X.N.Nodup) (hi : X.N[i]? = some x) (hx : Loc X.env.scope x) (he : CE X W e me) (ho : PIp X op (ipI f))
    (hf : X.fn x = true ∨ X.env.scope.names.lookup x = some .local := by first | exact .inl rfl | exact .inr rfl | assumption)
    (hp : ∀ {te : TE}, PE X e te → PS X (.AugAssign (.Name x pos') op e pos) (L2.tAug i te (ipI f))) : CS X W (.AugAssign (.Name x pos') op e pos) (sAug i f me) := by
  intro ρ μ s σ H D hs hm h
  refine ⟨_, hp pe_w, ?_⟩
  unfold sAug at h
  split at h
  · rename_i z e1
    obtain ⟨v, q, r⟩ := hs.get i _ e1
    cases r
    refine ⟨_, q, ?_⟩
    refine he ρ μ s σ H _ hs hm (PostS.bind hs h fun u μ1 x H1 ρ1 t1 r1 h1 => ?_)
    split at h1
    · cases r1
      exact ⟨_, _, rfl, rfl, h1 _ H1 ρ1 (Stp.refl t1.mem) ((t1.s hs).set .int)⟩
    · exact h1.elim
  · exact h.elim

/-! ### while -/
def sWhile (t : FT) (b : FS) : Nat → FS
  | 0 => fun _ _ => .bad
  | n + 1 => fun s μ => ofR (t s μ) s fun c μ1 => match c with
    | false => .nx s μ1
    | true => match b s μ1 with
      | .nx s2 μ2 => sWhile t b n s2 μ2
      | .ct s2 μ2 => sWhile t b n s2 μ2
      | .bk s2 μ2 => .nx s2 μ2
      | o => o
theorem cs_while {c : Expr} {body : List Stmt} {tc : FT} {b : FS} {pos : Pos} (n : Nat) (G : Good X W k) (hc : CT X W c tc) (hb : CSs X W body b) : CS X W (.While c body [] pos) (sWhile tc b n) := by
  intro ρ μ s σ H D hs hm h
  refine ⟨_, ps_while G.po pt_w pss_w, ?_⟩
  refine ⟨fun m σ' H' => ∃ ρ' s' μ', RepM X.K H' ρ' μ' ∧ RepS X.K H' ρ' s' σ' ∧ PostS X W ρ' H' (sWhile tc b m s' μ') D, ⟨n, ρ, s, μ, hm, hs, h⟩, ?_⟩
  intro m σ' H' ⟨ρ', s', μ', hm', hs', h'⟩
  cases m with
  | zero => exact h'.elim
  | succ m =>
    refine hc ρ' μ' s' σ' H' _ hs' hm' (PostS.bind hs' h' fun b0 μ1 x H1 ρ1 t1 r1 h1 => ?_)
    cases r1
    cases b0 with
    | false => exact iteF (h1 σ' H1 ρ1 (Stp.refl t1.mem) (t1.s hs'))
    | true =>
      refine iteT ⟨fun σ2 H2 => ∃ ρ2 s2 μ2, RepM X.K H2 ρ2 μ2 ∧ RepS X.K H2 ρ2 s2 σ2 ∧ PostS X W ρ2 H2 (sWhile tc b m s2 μ2) D, fun σ2 H2 q => ⟨m, Nat.lt_succ_self m, q⟩, ?_⟩
      refine hb ρ1 μ1 s' σ' H1 _ (t1.s hs') t1.mem ?_
      cases e : b s' μ1 with
      | nx s2 μ2 =>
        simp only [e] at h1
        exact fun σ2 H2 ρ2 t r => ⟨ρ2, s2, μ2, t.mem, r, PostS.from t h1⟩
      | ct s2 μ2 =>
        simp only [e] at h1
        exact fun σ2 H2 ρ2 t r => ⟨ρ2, s2, μ2, t.mem, r, PostS.from t h1⟩
      | bk s2 μ2 => simp only [e] at h1; exact h1
      | rt u m2 => simp only [e] at h1; exact h1
      | ex c2 u m2 => simp only [e] at h1; exact h1
      | bad => simp only [e] at h1; exact h1.elim

/-! ### what is walked -/
inductive IterU where
  | seq (us : List U)
  | rng (lo c : Int) (n : Nat)
  | live (r : Nat)
  | zipL (a b : Nat)
  /-- the list at r from its item n - 1 down -/
  | rev (r n : Nat)
  /-- a tuple beside the list at r -/
  | zipM (us : List U) (r : Nat)
def listAt (μ : Mem) (r : Nat) : Option (List U) := match μ[r]? with
  | some (.lst us) => some us
  | _ => none
def itemAt (it : IterU) (i : Nat) (μ : Mem) : Option (Option U) := match it with
  | .seq us => some us[i]?
  | .rng lo c n => some (if i < n then some (.int (lo + (i : Int) * c)) else none)
  | .live r => (listAt μ r).map fun us => us[i]?
  | .zipL a b => match listAt μ a, listAt μ b with
    | some us, some ws => some (match us[i]?, ws[i]? with
      | some u, some w => some (.tup [u, w])
      | _, _ => none)
    | _, _ => none
  | .rev r n => (listAt μ r).bind fun us => if i < n then us[n - 1 - i]?.map some else some none
  | .zipM us r => match listAt μ r with
    | some ws => some (match us[i]?, ws[i]? with
      | some u, some w => some (.tup [u, w])
      | _, _ => none)
    | none => none
def ItOk (K : PySem.W.Frag) (ρ : List Addr) (H : Hp) (it : IterU) (J : It) : Prop := ∀ i ρ' H' μ', Ext ρ ρ' → TX H H' → RepM K H' ρ' μ' → match itemAt it i μ' with
  | none => True
  | some none => J.stop i H'
  | some (some u) => J.go i H' ∧ ∀ x H'', J.yld i H' x H'' → Stp K ρ' H' ρ' H'' μ' ∧ RepV K H'' ρ' u x
def relI : RelT IterU It := fun K H ρ it J => ItOk K ρ H it J
abbrev FI := Slots → Mem → Res IterU
def WI (X : Cx) (tg iter : Expr) : TI := fun σ H R => ∃ wi, PI X tg iter wi ∧ wi σ H R
theorem pi_w {tg iter : Expr} : PI X tg iter (WI X tg iter) := ⟨fun pins s σ H R I ⟨_, h, q⟩ => h.run pins s σ H R I q⟩
def CI (X : Cx) (W : WX) (tg iter : Expr) (m : FI) : Prop := ∀ ρ μ s σ H R, RepS X.K H ρ s σ → RepM X.K H ρ μ → Post X W σ relI ρ H (m s μ) R → WI X tg iter σ H R
theorem listAt_ok {K : PySem.W.Frag} {H : Hp} {ρ : List Addr} {μ : Mem} (hm : RepM K H ρ μ) {r : Nat} {a : Addr} {us : List U} (hr : ρ[r]? = some a) (e : listAt μ r = some us) : ∃ vs, SqL K H a vs ∧ RepVs K H ρ us vs := by
  obtain ⟨c, hc, rc⟩ := hm.at hr
  simp only [listAt, hc] at e
  cases c with
  | lst us => obtain ⟨vs, q, r⟩ := rc; cases e; exact ⟨vs, .inl (.inl q), r⟩
  | _ => cases e
theorem it_live {K : PySem.W.Frag} {H : Hp} {ρ : List Addr} {r : Nat} {a : Addr} (hr : ρ[r]? = some a) : ItOk K ρ H (.live r) (Itl K a) := by
  intro i ρ' H' μ' ex tx hm
  simp only [itemAt]
  cases e : listAt μ' r with
  | none => trivial
  | some us =>
    obtain ⟨vs, q, rr⟩ := listAt_ok hm (ex.get hr) e
    simp only [Option.map_some]
    cases eu : us[i]? with
    | none =>
      refine ⟨vs, q, ?_⟩
      rw [← rr.length]
      exact List.getElem?_eq_none_iff.mp eu
    | some u =>
      obtain ⟨v, q2, r2⟩ := rr.get eu
      refine ⟨⟨vs, v, q, q2⟩, fun x H'' y => ?_⟩
      obtain ⟨rfl, hx⟩ := y
      have := hx vs q
      rw [q2] at this
      cases this
      exact ⟨Stp.refl hm, r2⟩
theorem it_frl {K : PySem.W.Frag} {H : Hp} {ρ : List Addr} {a : Addr} {us : List U} {vs : List V} (hs : FrL K H a vs) (hr : RepVs K H ρ us vs) : ItOk K ρ H (.seq us) (Itl K a) := by
  intro i ρ' H' μ' ex tx hm
  simp only [itemAt]
  have hs' := (tx.frl hs).sq
  have hr' := hr.mono tx ex
  cases eu : us[i]? with
  | none =>
    refine ⟨vs, hs', ?_⟩
    rw [← hr'.length]
    exact List.getElem?_eq_none_iff.mp eu
  | some u =>
    obtain ⟨v, q2, r2⟩ := hr'.get eu
    refine ⟨⟨vs, v, hs', q2⟩, fun x H'' y => ?_⟩
    obtain ⟨rfl, hx⟩ := y
    have := hx vs hs'
    rw [q2] at this
    cases this
    exact ⟨Stp.refl hm, r2⟩
theorem it_tup {K : PySem.W.Frag} {H : Hp} {ρ : List Addr} {a : Addr} {us : List U} {vs : List V} (hs : SqT K H a vs) (hr : RepVs K H ρ us vs) : ItOk K ρ H (.seq us) (Itt K a) := by
  intro i ρ' H' μ' ex tx hm
  simp only [itemAt]
  have hs' := tx.seq hs
  have hr' := hr.mono tx ex
  cases eu : us[i]? with
  | none =>
    refine ⟨vs, hs', ?_⟩
    rw [← hr'.length]
    exact List.getElem?_eq_none_iff.mp eu
  | some u =>
    obtain ⟨v, q2, r2⟩ := hr'.get eu
    refine ⟨⟨vs, v, hs', q2⟩, fun x H'' y => ?_⟩
    obtain ⟨rfl, hx⟩ := y
    have := hx vs hs'
    rw [q2] at this
    cases this
    exact ⟨Stp.refl hm, r2⟩
theorem it_rng {K : PySem.W.Frag} {H : Hp} {ρ : List Addr} {lo : Int} {n : Nat} : ItOk K ρ H (.rng lo 1 n) (Itr lo n) := by
  intro i ρ' H' μ' ex tx hm
  simp only [itemAt]
  by_cases hi : i < n
  · simp only [hi, if_true]
    refine ⟨hi, fun x H'' y => ?_⟩
    obtain ⟨rfl, rfl⟩ := y
    rw [Int.mul_one]
    exact ⟨Stp.refl hm, .int⟩
  · simp only [hi, if_false]
    show n ≤ i
    omega
theorem it_rngC {K : PySem.W.Frag} {H : Hp} {ρ : List Addr} {lo c : Int} {n : Nat} : ItOk K ρ H (.rng lo c n) (Itc lo c n) := by
  intro i ρ' H' μ' ex tx hm
  simp only [itemAt]
  by_cases hi : i < n
  · simp only [hi, if_true]
    refine ⟨hi, fun x H'' y => ?_⟩
    obtain ⟨rfl, rfl⟩ := y
    exact ⟨Stp.refl hm, .int⟩
  · simp only [hi, if_false]
    show n ≤ i
    omega
/-- a list, a tuple, a text: by value -/
def iAny (K : PySem.W.Frag) (tl : TE) : TI := fun σ H R => tl σ H fun x H1 => (∃ a, x = .ref a ∧ (∃ xs, SqL K H1 a xs) ∧ R (Itl K a) H1) ∨ (∃ a, x = .ref a ∧ (∃ xs, SqT K H1 a xs) ∧ R (Itt K a) H1) ∨ ∃ z, x = .str z ∧ R (Its z) H1
theorem pi_any {tg l : Expr} {tl : TE} (hl : PE X l tl) : PI X tg l (iAny X.K tl) := by
  refine ⟨fun pins s σ H R I h => ?_⟩
  refine thn (hl.run pins s σ H _ I h) fun v s1 ⟨x, H1, I1, r1, q1⟩ => ?_
  rcases q1 with ⟨a, e, ⟨xs, hq⟩, q⟩ | ⟨a, e, ⟨xs, hq⟩, q⟩ | ⟨x, e, q⟩
  · subst e
    cases r1
    obtain ⟨its, rv, p, hz⟩ := I1.list hq
    refine wpAny_pyIter_list p.isList ?_
    refine ⟨s1.heap.objs.size, [s1.heap.objs.size], _, _, H1, rfl, I1.kept (t' := s1.toks) fun b o e => Heap.get?_push_of_some _ e, turn_list a _, ⟨_, Heap.get?_push_size _ rfl, rfl, rfl⟩, fun b hb => ?_, q⟩
    have e : b = s1.heap.objs.size := by simpa using hb
    subst e
    exact I1.fpOk (Nat.le_refl _) (I1.hok.fresh (Nat.le_refl _))
  · subst e
    cases r1
    obtain ⟨its, rv, p, hz⟩ := I1.tuple hq
    refine wpAny_pyIter_tuple (show s1.heap.IsTuple a its.toArray from p) ?_
    refine ⟨s1.heap.objs.size, [s1.heap.objs.size], _, _, H1, rfl, I1.kept (t' := s1.toks) fun b o e => Heap.get?_push_of_some _ e, turn_tuple a _, ⟨_, Heap.get?_push_size _ rfl, rfl, rfl⟩, fun b hb => ?_, q⟩
    have e : b = s1.heap.objs.size := by simpa using hb
    subst e
    exact I1.fpOk (Nat.le_refl _) (I1.hok.fresh (Nat.le_refl _))
  · subst e
    obtain ⟨t, rfl⟩ := r1
    cases ha : x.cps.all (· < 128)
    · exact wpAny_pyIter_wide ha (pi_one (tk := s1.toks) I1 _ (turn_str _ x t "str_iterator" (.inr rfl)) ⟨_, Heap.get?_push_size _ rfl, rfl, rfl⟩ q)
    · exact wpAny_pyIter_ascii ha (pi_one (tk := s1.toks) I1 _ (turn_str _ x t "str_ascii_iterator" (.inl rfl)) ⟨_, Heap.get?_push_size _ rfl, rfl, rfl⟩ q)
def signsU (z : Str) : List U := z.cps.toList.map fun c => .str ⟨#[c]⟩
theorem it_str {K : PySem.W.Frag} {H : Hp} {ρ : List Addr} {z : Str} (hz : PyData.strOk z = true) : ItOk K ρ H (.seq (signsU z)) (Its z) := by
  intro i ρ' H' μ' ex tx hm
  simp only [itemAt, signsU, List.getElem?_map]
  cases eu : z.cps.toList[i]? with
  | none =>
    show z.cps.size ≤ i
    have := List.getElem?_eq_none_iff.mp eu
    simpa using this
  | some c =>
    have hi : i < z.cps.size := by
      have := (List.getElem?_eq_some_iff.mp eu).1
      simpa using this
    refine ⟨hi, fun x H'' y => ?_⟩
    obtain ⟨rfl, c', e1, rfl⟩ := y
    have e2 : z.cps[i]? = some c := by
      rw [← Array.getElem?_toList]; exact eu
    rw [e1] at e2
    cases e2
    refine ⟨Stp.refl hm, .str ?_⟩
    have hc : c ∈ z.cps := Array.mem_toList_iff.mp (List.mem_of_getElem? eu)
    unfold PyData.strOk at *
    rw [Array.all_eq_true'] at *
    intro x hx
    have : x = c := by simpa using hx
    subst this
    exact hz x hc
def iSeq (a : FE) : FI := fun s μ => (a s μ).bind fun u μ1 => match u with
  | .tup us => .ok (.seq us) μ1
  | .frl us => .ok (.seq us) μ1
  | .str z => .ok (.seq (signsU z)) μ1
  | .ref r => match listAt μ1 r with
    | some _ => .ok (.live r) μ1
    | none => .bad
  | _ => .bad
theorem ci_seq {tg e : Expr} {me : FE} (he : CE X W e me) : CI X W tg e (iSeq me) := by
  intro ρ μ s σ H R hs hm h
  unfold iSeq at h
  refine ⟨_, pi_any pe_w, ?_⟩
  refine he ρ μ s σ H _ hs hm (h.bind fun u μ1 x H1 ρ1 t1 r1 h1 => ?_)
  cases r1 with
  | tup hs1 hr1 => exact .inr (.inl ⟨_, rfl, ⟨_, hs1⟩, h1.ok (Stp.refl t1.mem) (it_tup hs1 hr1)⟩)
  | str hz => exact .inr (.inr ⟨_, rfl, h1.ok (Stp.refl t1.mem) (it_str hz)⟩)
  | frl hs1 hr1 => exact .inl ⟨_, rfl, ⟨_, hs1.sq⟩, h1.ok (Stp.refl t1.mem) (it_frl hs1 hr1)⟩
  | ref hr =>
    rename_i r a
    simp only at h1
    cases e : listAt μ1 r with
    | none => rw [e] at h1; exact h1.elim
    | some us =>
      rw [e] at h1
      obtain ⟨vs, q, _⟩ := listAt_ok t1.mem hr e
      exact .inl ⟨a, rfl, ⟨vs, q⟩, h1.ok (Stp.refl t1.mem) (it_live hr)⟩
  | _ => exact h1.elim
def okR (i : Int) : Bool := decide (-(2 ^ 62) ≤ i ∧ i < 2 ^ 62)
def iRg1 (a : FE) : FI := fun s μ => (a s μ).bind fun u μ1 => match u with
  | .int n => if okR n then .ok (.rng 0 1 n.toNat) μ1 else .bad
  | _ => .bad
theorem ci_rg1 {tg a : Expr} {ma : FE} {p pos : Pos} (hg : Gl X "range") (hm0 : X.mg "range" = none) (ha : CE X W a ma) (hs1 : starEach [a] X.env = (false, eval a X.env) :: starEach [] X.env := by rfl) (hs2 : starEach [a] X.env = [(false, eval a X.env)] := by rfl) : CI X W tg (.Call (.Name "range" p) [a] [] pos) (iRg1 ma) := by
  intro ρ μ s σ H R hs hm h
  refine ⟨_, pi_range1 hg hm0 (pa_cons pe_w pa_nil hs1) hs2, ?_⟩
  refine ha ρ μ s σ H _ hs hm (h.bind fun u μ1 x H1 ρ1 t1 r1 h1 => ?_)
  split at h1
  · cases r1
    split at h1
    · rename_i hz
      have hz' := of_decide_eq_true hz
      exact ⟨_, rfl, hz'.1, hz'.2, h1.ok (Stp.refl t1.mem) it_rng⟩
    · exact h1.elim
  · exact h1.elim
def iRg2 (a b : FE) : FI := fun s μ => (a s μ).bind fun u μ1 => (b s μ1).bind fun w μ2 => match u, w with
  | .int i, .int j => if okR i && okR j then .ok (.rng i 1 (j - i).toNat) μ2 else .bad
  | _, _ => .bad
theorem ci_rg2 {tg a b : Expr} {ma mb : FE} {p pos : Pos} (hg : Gl X "range") (hm0 : X.mg "range" = none) (ha : CE X W a ma) (hb : CE X W b mb)
    (hp : ∀ {ta : TA}, PA X [a, b] ta → PI X tg (.Call (.Name "range" p) [a, b] [] pos) (iRng2 ta)) (hs1 : starEach [a, b] X.env = (false, eval a X.env) :: starEach [b] X.env := by rfl) (hs2 : starEach [b] X.env = (false, eval b X.env) :: starEach [] X.env := by rfl) :
    CI X W tg (.Call (.Name "range" p) [a, b] [] pos) (iRg2 ma mb) := by
  intro ρ μ s σ H R hs hm h
  refine ⟨_, hp (pa_cons pe_w (pa_cons pe_w pa_nil hs2) hs1), ?_⟩
  refine ha ρ μ s σ H _ hs hm (h.bind fun u μ1 x H1 ρ1 t1 r1 h1 => ?_)
  refine hb ρ1 μ1 s σ H1 _ (t1.s hs) t1.mem (h1.bind fun w μ2 y H2 ρ2 t2 r2 h2 => ?_)
  split at h2
  · cases r1; cases r2
    split at h2
    · rename_i hz
      obtain ⟨h3, h4⟩ := Bool.and_eq_true_iff.mp hz
      have h3' := of_decide_eq_true h3
      have h4' := of_decide_eq_true h4
      exact ⟨_, _, rfl, ⟨h3'.1, h3'.2, h4'.1, h4'.2⟩, h2.ok (Stp.refl t2.mem) it_rng⟩
    · exact h2.elim
  · exact h2.elim
/-- reversed(range(n)) -/
def iRev1 (a : FE) : FI := fun s μ => (a s μ).bind fun u μ1 => match u with
  | .int n => if okR n then .ok (.rng (n.toNat - 1) (-1) n.toNat) μ1 else .bad
  | _ => .bad
theorem ci_rev1 {tg a : Expr} {ma : FE} {p pos p2 pos2 : Pos} (hg : Gl X "reversed") (hm0 : X.mg "reversed" = none) (hg2 : Gl X "range") (hm2 : X.mg "range" = none) (ha : CE X W a ma)
    (hp : ∀ {ta : TE}, PE X a ta → PI X tg (.Call (.Name "reversed" p) [.Call (.Name "range" p2) [a] [] pos2] [] pos) (iRevR (tRg1 ta))) : CI X W tg (.Call (.Name "reversed" p) [.Call (.Name "range" p2) [a] [] pos2] [] pos) (iRev1 ma) := by
  intro ρ μ s σ H R hs hm h
  refine ⟨_, hp pe_w, ?_⟩
  refine ha ρ μ s σ H _ hs hm (h.bind fun u μ1 x H1 ρ1 t1 r1 h1 => ?_)
  split at h1
  · cases r1
    rename_i n
    split at h1
    · rename_i hz
      have hz' := of_decide_eq_true hz
      refine ⟨_, rfl, by decide, by decide, hz'.1, hz'.2, ?_⟩
      have e1 : (n - 0).toNat = n.toNat := by rw [Int.sub_zero]
      have e2 : (0 : Int) + (((n - 0).toNat : Nat) : Int) - 1 = (n.toNat : Int) - 1 := by rw [e1]; omega
      rw [e1, Int.zero_add]
      exact h1.ok (Stp.refl t1.mem) it_rngC
    · exact h1.elim
  · exact h1.elim
theorem it_zipT {K : PySem.W.Frag} {H : Hp} {ρ : List Addr} {a b : Addr} {us ws : List U} {vs xs : List V} (hs : SqT K H a vs) (hr : RepVs K H ρ us vs) (hs2 : SqT K H b xs) (hr2 : RepVs K H ρ ws xs) : ItOk K ρ H (.seq (List.zipWith (fun u w => .tup [u, w]) us ws)) (ItzT K a b) := by
  intro i ρ' H' μ' ex tx hm
  simp only [itemAt]
  have hs' := tx.seq hs
  have hr' := hr.mono tx ex
  have hs2' := tx.seq hs2
  have hr2' := hr2.mono tx ex
  rw [List.getElem?_zipWith]
  cases eu : us[i]? with
  | none =>
    refine ⟨vs, xs, hs', hs2', .inl ?_⟩
    rw [← hr'.length]
    exact List.getElem?_eq_none_iff.mp eu
  | some u =>
    cases ew : ws[i]? with
    | none =>
      refine ⟨vs, xs, hs', hs2', .inr ?_⟩
      rw [← hr2'.length]
      exact List.getElem?_eq_none_iff.mp ew
    | some w =>
      obtain ⟨v, q2, r2⟩ := hr'.get eu
      obtain ⟨v2, q3, r3⟩ := hr2'.get ew
      refine ⟨⟨vs, xs, v, v2, hs', hs2', q2, q3⟩, fun x H'' y => ?_⟩
      obtain ⟨T, x1, y1, rfl, nT, rfl, f1, f2⟩ := y
      have e1 := f1 vs hs'
      rw [q2] at e1
      cases e1
      have e2 := f2 xs hs2'
      rw [q3] at e2
      cases e2
      exact ⟨Stp.temp hm nT, newT nT (.cons r2 (.one r3))⟩
theorem it_zipL {K : PySem.W.Frag} {H : Hp} {ρ : List Addr} {a b : Addr} {r1 r2 : Nat} (h1 : ρ[r1]? = some a) (h2 : ρ[r2]? = some b) : ItOk K ρ H (.zipL r1 r2) (Itz K a b) := by
  intro i ρ' H' μ' ex tx hm
  simp only [itemAt]
  cases e1 : listAt μ' r1 with
  | none => trivial
  | some us =>
    cases e2 : listAt μ' r2 with
    | none => trivial
    | some ws =>
      obtain ⟨vs, q1, rr1⟩ := listAt_ok hm (ex.get h1) e1
      obtain ⟨xs, q2, rr2⟩ := listAt_ok hm (ex.get h2) e2
      simp only
      cases eu : us[i]? with
      | none =>
        refine ⟨vs, xs, q1, q2, .inl ?_⟩
        rw [← rr1.length]
        exact List.getElem?_eq_none_iff.mp eu
      | some u =>
        cases ew : ws[i]? with
        | none =>
          refine ⟨vs, xs, q1, q2, .inr ?_⟩
          rw [← rr2.length]
          exact List.getElem?_eq_none_iff.mp ew
        | some w =>
          obtain ⟨v, q3, r3⟩ := rr1.get eu
          obtain ⟨v2, q4, r4⟩ := rr2.get ew
          refine ⟨⟨vs, xs, v, v2, q1, q2, q3, q4⟩, fun x H'' y => ?_⟩
          obtain ⟨T, x1, y1, rfl, nT, rfl, f1, f2⟩ := y
          have g1 := f1 vs q1
          rw [q3] at g1
          cases g1
          have g2 := f2 xs q2
          rw [q4] at g2
          cases g2
          exact ⟨Stp.temp hm nT, newT nT (.cons r3 (.one r4))⟩
/-- zip of two tuples, of two lists -/
def iZip (a b : FE) : FI := fun s μ => (a s μ).bind fun u μ1 => (b s μ1).bind fun w μ2 => match u, w with
  | .tup us, .tup ws => .ok (.seq (List.zipWith (fun u w => .tup [u, w]) us ws)) μ2
  | .ref r1, .ref r2 => match listAt μ2 r1, listAt μ2 r2 with
    | some _, some _ => .ok (.zipL r1 r2) μ2
    | _, _ => .bad
  | _, _ => .bad
theorem ci_zip {tg a b : Expr} {ma mb : FE} {p pos : Pos} (ha : CE X W a ma) (hb : CE X W b mb)
    (hp : ∀ {ta : TA}, PA X [a, b] ta → PI X tg (.Call (.Name "zip" p) [a, b] [] pos) (iZipA X.K ta)) (hs1 : starEach [a, b] X.env = (false, eval a X.env) :: starEach [b] X.env := by rfl) (hs2 : starEach [b] X.env = (false, eval b X.env) :: starEach [] X.env := by rfl) :
    CI X W tg (.Call (.Name "zip" p) [a, b] [] pos) (iZip ma mb) := by
  intro ρ μ s σ H R hs hm h
  refine ⟨_, hp (pa_cons pe_w (pa_cons pe_w pa_nil hs2) hs1), ?_⟩
  refine ha ρ μ s σ H _ hs hm (h.bind fun u μ1 x H1 ρ1 t1 r1 h1 => ?_)
  refine hb ρ1 μ1 s σ H1 _ (t1.s hs) t1.mem (h1.bind fun w μ2 y H2 ρ2 t2 r2 h2 => ?_)
  have r1' := t2.v r1
  split at h2
  · cases r1' with
    | tup a1 a2 => cases r2 with
      | tup b1 b2 => exact ⟨_, _, _, _, rfl, .inr ⟨a1, b1, h2.ok (Stp.refl t2.mem) (it_zipT a1 a2 b1 b2)⟩⟩
  · cases r1' with
    | ref a1 => cases r2 with
      | ref b1 =>
        split at h2
        · rename_i e1 e2
          obtain ⟨vs, q1, _⟩ := listAt_ok t2.mem a1 e1
          obtain ⟨xs, q2, _⟩ := listAt_ok t2.mem b1 e2
          exact ⟨_, _, _, _, rfl, .inl ⟨q1, q2, h2.ok (Stp.refl t2.mem) (it_zipL a1 b1)⟩⟩
        · exact h2.elim
  · exact h2.elim

/-! ### for -/
def fuelF : Nat := 1000000
def sForGo (g : Tgt) (b : FS) : Nat → IterU → Nat → FS
  | 0, _, _ => fun _ _ => .bad
  | f + 1, it, i => fun s μ => match itemAt it i μ with
    | none => .bad
    | some none => .nx s μ
    | some (some u) => match setT g u s with
      | none => .bad
      | some s1 => match b s1 μ with
        | .nx s2 μ2 => sForGo g b f it (i + 1) s2 μ2
        | .ct s2 μ2 => sForGo g b f it (i + 1) s2 μ2
        | .bk s2 μ2 => .nx s2 μ2
        | o => o
def sFor (it : FI) (g : Tgt) (b : FS) : FS := fun s μ => ofR (it s μ) s fun j μ1 => sForGo g b fuelF j 0 s μ1
theorem cs_for {tg iter : Expr} {body : List Stmt} {mi : FI} {g : Tgt} {b : FS} {pos : Pos} (G : Good X W k) (hi : CI X W tg iter mi) (hg : CG X tg g) (hb : CSs X W body b)
    (hs0 : ∀ x, foldedSetIterable iter X.env x = pure x := by intro _; rfl) : CS X W (.For tg iter body [] pos) (sFor mi g b) := by
  intro ρ μ s σ H D hs hm h
  refine ⟨_, ps_for G.po G.calm pi_w pg_w pss_w hs0, ?_⟩
  refine hi ρ μ s σ H _ hs hm (PostS.bind hs h fun j μ1 J H1 ρ1 t1 r1 h1 => ?_)
  have hJ : ItOk X.K ρ1 H1 j J := r1
  refine ⟨fun i m σ' H' => ∃ ρ' s' μ', Stp X.K ρ1 H1 ρ' H' μ' ∧ RepS X.K H' ρ' s' σ' ∧ PostS X W ρ' H' (sForGo g b m j i s' μ') D, ⟨fuelF, ρ1, s, μ1, Stp.refl t1.mem, t1.s hs, h1⟩, ?_⟩
  intro i m σ' H' ⟨ρ', s', μ', t', hs', h'⟩
  cases m with
  | zero => exact h'.elim
  | succ m =>
    have q := hJ i ρ' H' μ' t'.ext t'.tx t'.mem
    unfold sForGo at h'
    cases e : itemAt j i μ' with
    | none => rw [e] at h'; exact h'.elim
    | some o =>
      rw [e] at h' q
      cases o with
      | none => exact .inl ⟨q, h' σ' H' ρ' (Stp.refl t'.mem) hs'⟩
      | some u =>
        refine .inr ⟨q.1, fun σ2 H2 => ∃ ρ2 s2 μ2, Stp X.K ρ1 H1 ρ2 H2 μ2 ∧ RepS X.K H2 ρ2 s2 σ2 ∧ PostS X W ρ2 H2 (sForGo g b m j (i + 1) s2 μ2) D, fun σ2 H2 z => ⟨m, Nat.lt_succ_self m, z⟩, fun x H'' y => ?_⟩
        obtain ⟨t2, ru⟩ := q.2 x H'' y
        simp only at h'
        cases es : setT g u s' with
        | none => rw [es] at h'; exact h'.elim
        | some s1 =>
          rw [es] at h'
          simp only at h'
          refine hg ρ' s' σ' H'' u x s1 _ (t2.s hs') ru es fun σ3 hs3 _ => ?_
          refine hb ρ' μ' s1 σ3 H'' _ hs3 t2.mem ?_
          cases eb : b s1 μ' with
          | nx s2 μ2 =>
            rw [eb] at h'
            exact fun σ4 H4 ρ4 t r => ⟨ρ4, s2, μ2, (t'.trans t2).trans t, r, PostS.from (t2.trans t) h'⟩
          | ct s2 μ2 =>
            rw [eb] at h'
            exact fun σ4 H4 ρ4 t r => ⟨ρ4, s2, μ2, (t'.trans t2).trans t, r, PostS.from (t2.trans t) h'⟩
          | bk s2 μ2 => rw [eb] at h'; exact PostS.from t2 h'
          | rt u m2 => rw [eb] at h'; exact PostS.from t2 h'
          | ex c2 u m2 => rw [eb] at h'; exact PostS.from t2 h'
          | bad => rw [eb] at h'; exact h'.elim

/-! ### [e for x in xs if t] -/
def wipeU (s : Slots) : List Nat → Slots
  | [] => s
  | v :: vs => (wipeU s vs).set v none
def lcGo (j : IterU) (own : List Nat) (g : Tgt) (t : FT) (e : FE) (s : Slots) (D : Nat) : Nat → Nat → Mem → Res U
  | 0, _, _ => .bad
  | f + 1, i, μ => match itemAt j i μ with
    | none => .bad
    | some none => .ok (.ref D) μ
    | some (some u) => match setT g u (wipeU s own) with
      | none => .bad
      | some s1 => match t s1 μ with
        | .ok true μ3 => match e s1 μ3 with
          | .ok v μ4 => match μ4[D]? with
            | some (.lst acc) => if acc.length < lim then lcGo j own g t e s D f (i + 1) (μ4.set D (.lst (acc ++ [v]))) else .bad
            | _ => .bad
          | _ => .bad
        | .ok false μ3 => lcGo j own g t e s D f (i + 1) μ3
        | _ => .bad
def fLc (it : FI) (own : List Nat) (g : Tgt) (t : FT) (e : FE) : FE := fun s μ => (it s μ).bind fun j μ1 => lcGo j own g t e s μ1.length fuelF 0 (μ1 ++ [.lst []])
def tAll : FT := fun _ μ => .ok true μ
theorem RepS.wipe {K : PySem.W.Frag} {H : Hp} {ρ : List Addr} {s : Slots} {σ : L2.St} (h : RepS K H ρ s σ) : ∀ vs : List Nat, RepS K H ρ (wipeU s vs) (L2.wipe σ vs)
  | [] => h
  | v :: vs => by
    have ih := RepS.wipe h vs
    refine ⟨by simp [wipeU, L2.wipe, ih.len], fun i u e => ?_⟩
    by_cases hv : v = i
    · subst hv
      have : v < (wipeU s vs).length := by
        have := (List.getElem?_eq_some_iff.mp e).1
        simpa [wipeU] using this
      simp only [wipeU] at e
      rw [List.getElem?_set_self this] at e
      cases e
    · simp only [wipeU] at e
      rw [List.getElem?_set_ne hv] at e
      obtain ⟨x, q, r⟩ := ih.get i u e
      refine ⟨x, ?_, r⟩
      show ((L2.wipe σ vs).set v none)[i]? = _
      rw [List.getElem?_set_ne hv]
      exact q
abbrev W0 : WX := fun _ _ _ _ => False
/-- an element of a comprehension, in all the frames that it may have -/
def WEb (X : Cx) (scope : Scope) (e : Expr) : TE := fun σ H Q => ∀ (s : Shared) (H0 : Hp) (C : Addr) (cl : List (Str × Addr)) (fp : List Addr), WE (X.blk s H0 scope (compEnvC scope cl C X.env) fp) e σ H Q
theorem pe_wb {scope : Scope} {e : Expr} (s : Shared) (H0 : Hp) (C : Addr) (cl : List (Str × Addr)) (fp : List Addr) : PE (X.blk s H0 scope (compEnvC scope cl C X.env) fp) e (WEb X scope e) :=
  ⟨fun pins s1 σ H Q I q => pe_w.run pins s1 σ H Q I (q s H0 C cl fp)⟩
def WGb (X : Cx) (scope : Scope) (e : Expr) : TG := fun v σ H Q => ∀ (s : Shared) (H0 : Hp) (C : Addr) (cl : List (Str × Addr)) (fp : List Addr), WG (X.blk s H0 scope (compEnvC scope cl C X.env) fp) e v σ H Q
theorem pg_wb {scope : Scope} {e : Expr} (s : Shared) (H0 : Hp) (C : Addr) (cl : List (Str × Addr)) (fp : List Addr) : PG (X.blk s H0 scope (compEnvC scope cl C X.env) fp) e (WGb X scope e) :=
  ⟨fun pins s1 σ H v u Q I r q => pg_w.run pins s1 σ H v u Q I r (q s H0 C cl fp)⟩
def WTs (X : Cx) (ifs : List Expr) : TT := fun σ H Q => ∃ t, PTs X ifs t ∧ t σ H Q
theorem pts_w {ifs : List Expr} : PTs X ifs (WTs X ifs) := ⟨fun pins s σ H Q I ⟨_, h, q⟩ => h.run pins s σ H Q I q⟩
def CTs (X : Cx) (W : WX) (ifs : List Expr) (m : FT) : Prop := ∀ ρ μ s σ H Q, RepS X.K H ρ s σ → RepM X.K H ρ μ → Post X W σ relB ρ H (m s μ) Q → WTs X ifs σ H Q
theorem cts_nil : CTs X W [] tAll := fun ρ μ s σ H Q hs hm h => ⟨_, pts_nil, h.ok (Stp.refl hm) rfl⟩
theorem cts_one {c : Expr} {t : FT} (h : CT X W c t) : CTs X W [c] t := fun ρ μ s σ H Q hs hm p => ⟨_, pts_one pt_w, h ρ μ s σ H Q hs hm p⟩
def WTb (X : Cx) (scope : Scope) (ifs : List Expr) : TT := fun σ H Q => ∀ (s : Shared) (H0 : Hp) (C : Addr) (cl : List (Str × Addr)) (fp : List Addr), WTs (X.blk s H0 scope (compEnvC scope cl C X.env) fp) ifs σ H Q
theorem pts_wb {scope : Scope} {ifs : List Expr} (s : Shared) (H0 : Hp) (C : Addr) (cl : List (Str × Addr)) (fp : List Addr) : PTs (X.blk s H0 scope (compEnvC scope cl C X.env) fp) ifs (WTb X scope ifs) :=
  ⟨fun pins s1 σ H Q I q => pts_w.run pins s1 σ H Q I (q s H0 C cl fp)⟩
def subT (g : Tgt) (own : List Nat) : Bool := match g with
  | .one i => decide (i ∈ own)
  | .tup is => is.all fun i => decide (i ∈ own)
theorem subT_ok {g : Tgt} {own : List Nat} (h : subT g own = true) : inT g own := by
  cases g with
  | one i =>
    have h' : decide (i ∈ own) = true := h
    have h2 : i ∈ own := of_decide_eq_true h'
    exact h2
  | tup is =>
    have h' : (is.all fun i => decide (i ∈ own)) = true := h
    have h2 : ∀ i ∈ is, i ∈ own := fun i hi => of_decide_eq_true (List.all_eq_true.mp h' i hi)
    exact h2
/-- what a comprehension's reading asks is shown by the mirror's -/
theorem lc_reads {tg iter : Expr} {ifs : List Expr} {elt : Expr} {scope : Scope} {own : List Nat} {mi : FI} {g : Tgt} {t : FT} {e : FE} (hi : CI X W tg iter mi)
    (hg : ∀ s H0 C cl fp, CG (X.blk s H0 scope (compEnvC scope cl C X.env) fp) tg g) (ht : ∀ s H0 C cl fp, CTs (X.blk s H0 scope (compEnvC scope cl C X.env) fp) W0 ifs t)
    (he : ∀ s H0 C cl fp, CE (X.blk s H0 scope (compEnvC scope cl C X.env) fp) W0 elt e) (hsub : subT g own = true)
    {ρ : List Addr} {μ : Mem} {s : Slots} {σ : L2.St} {H : Hp} {Q : VK} (hs : RepS X.K H ρ s σ) (hm : RepM X.K H ρ μ) (h : Post X W σ relV ρ H (fLc mi own g t e s μ) Q) :
    tLc (WI X tg iter) (WGb X scope tg) (WTb X scope ifs) (WEb X scope elt) own σ H Q := by
  refine hi ρ μ s σ H _ hs hm (h.bind fun j μ1 J H1 ρ1 t1 r1 h1 => ?_)
  intro D hD
  have hJ : ItOk X.K ρ1 H1 j J := r1
  have tD := newL t1.mem hD (RepVs.nil (K := X.K) (H := H1) (ρ := ρ1))
  refine ⟨fun i m H' => ∃ ρ' μ', Stp X.K (ρ1 ++ [D]) (upd H1 D (.lst [])) ρ' H' μ' ∧ Post X W σ relV ρ' H' (lcGo j own g t e s μ1.length m i μ') Q, ⟨fuelF, ρ1 ++ [D], μ1 ++ [.lst []], Stp.refl tD.mem, ?_⟩, ?_⟩
  · revert h1
    generalize lcGo j own g t e s μ1.length fuelF 0 (μ1 ++ [.lst []]) = z
    intro h1
    cases z with
    | ok c m2 => exact fun v2 H3 ρ3 t3 q3 => h1 v2 H3 ρ3 (tD.trans t3) q3
    | ex c m2 => exact fun cls H3 ρ3 t3 e => h1 cls H3 ρ3 (tD.trans t3) e
    | bad => exact h1
  intro i m H' ⟨ρ', μ', t', h'⟩
  have hDr : ρ'[μ1.length]? = some D := t'.ext.get (by rw [← t1.mem.len, List.getElem?_append_right (Nat.le_refl _)]; simp)
  cases m with
  | zero => exact h'.elim
  | succ m =>
    have q := hJ i ρ' H' μ' (tD.ext.trans t'.ext) (tD.tx.trans t'.tx) t'.mem
    unfold lcGo at h'
    cases e0 : itemAt j i μ' with
    | none => rw [e0] at h'; exact h'.elim
    | some o =>
      rw [e0] at h' q
      cases o with
      | none => exact .inl ⟨q, h'.ok (Stp.refl t'.mem) (.ref hDr)⟩
      | some u =>
        refine .inr ⟨q.1, fun H2 => ∃ ρ2 μ2, Stp X.K (ρ1 ++ [D]) (upd H1 D (.lst [])) ρ2 H2 μ2 ∧ Post X W σ relV ρ2 H2 (lcGo j own g t e s μ1.length m (i + 1) μ2) Q, fun H2 z => ⟨m, Nat.lt_succ_self m, z⟩, fun x H'' y => ?_⟩
        obtain ⟨t2, ru⟩ := q.2 x H'' y
        simp only at h'
        have hsw : RepS X.K H'' ρ' (wipeU s own) (wipe σ own) := (t2.s (t'.s (tD.s (t1.s hs)))).wipe own
        cases es : setT g u (wipeU s own) with
        | none => rw [es] at h'; exact h'.elim
        | some s1 =>
          rw [es] at h'
          simp only at h'
          intro s0 H0 C cl fp
          refine hg s0 H0 C cl fp ρ' (wipeU s own) (wipe σ own) H'' u x s1 _ hsw ru es fun σ3 hs3 hw => ⟨?_, ?_⟩
          · have := hw own (subT_ok hsub)
            rw [this]
            exact wipe_wipe fun i hi => hi
          · intro s0' H0' C' cl' fp'
            refine ht s0' H0' C' cl' fp' ρ' μ' s1 σ3 H'' _ hs3 t2.mem ?_
            cases et : t s1 μ' with
            | ex c m2 => rw [et] at h'; exact h'.elim
            | bad => rw [et] at h'; exact h'.elim
            | ok b μ3 =>
              rw [et] at h'
              intro b' H4 ρ4 t4 r4
              cases r4
              cases b with
              | false =>
                refine iteF ⟨ρ4, μ3, (t'.trans t2).trans t4, ?_⟩
                simp only at h'
                revert h'
                generalize lcGo j own g t e s μ1.length m (i + 1) μ3 = z
                intro h'
                cases z with
                | ok c m2 => exact fun v2 H3 ρ3 t3 q3 => h' v2 H3 ρ3 ((t2.trans t4).trans t3) q3
                | ex c m2 => exact fun cls H3 ρ3 t3 e => h' cls H3 ρ3 ((t2.trans t4).trans t3) e
                | bad => exact h'
              | true =>
                refine iteT ?_
                intro s0' H0' C' cl' fp'
                refine he s0' H0' C' cl' fp' ρ4 μ3 s1 σ3 H4 _ (t4.s hs3) t4.mem ?_
                simp only at h'
                cases ee : e s1 μ3 with
                | ex c m2 => rw [ee] at h'; exact h'.elim
                | bad => rw [ee] at h'; exact h'.elim
                | ok v μ4 =>
                  rw [ee] at h'
                  simp only at h'
                  intro w H5 ρ5 t5 r5
                  split at h'
                  · rename_i acc em
                    split at h'
                    · rename_i hz
                      have hD5 : ρ5[μ1.length]? = some D := t5.ext.get (t4.ext.get (t2.ext.get hDr))
                      obtain ⟨ws, q5, rr⟩ := lst_of t5.mem hD5 em
                      have t6 := putL t5.mem hD5 em (rr.append (.one r5))
                      refine ⟨ws, q5, by rw [← rr.length]; exact lim_lt hz, ρ5, _, (((t'.trans t2).trans t4).trans t5).trans t6, ?_⟩
                      revert h'
                      generalize lcGo j own g t e s μ1.length m (i + 1) (μ4.set μ1.length (.lst (acc ++ [v]))) = z
                      intro h'
                      cases z with
                      | ok c m2 => exact fun v2 H3 ρ3 t3 q3 => h' v2 H3 ρ3 ((((t2.trans t4).trans t5).trans t6).trans t3) q3
                      | ex c m2 => exact fun cls H3 ρ3 t3 e => h' cls H3 ρ3 ((((t2.trans t4).trans t5).trans t6).trans t3) e
                      | bad => exact h'
                    · exact h'.elim
                  · exact h'.elim
theorem ce_lc {tg iter : Expr} {ifs : List Expr} {elt : Expr} {scope : Scope} {own : List (Str × Nat)} {pos : Pos} {mi : FI} {g : Tgt} {t : FT} {e : FE} (G : Good X W k) (hN : X.N.Nodup) (ok : BlkOk X.N X.env.scope scope own) (hi : CI X W tg iter mi)
    (hg : ∀ s H0 C cl fp, CG (X.blk s H0 scope (compEnvC scope cl C X.env) fp) tg g) (ht : ∀ s H0 C cl fp, CTs (X.blk s H0 scope (compEnvC scope cl C X.env) fp) W0 ifs t)
    (he : ∀ s H0 C cl fp, CE (X.blk s H0 scope (compEnvC scope cl C X.env) fp) W0 elt e) (hsub : subT g (own.map (·.2)) = true) (hs0 : ∀ x, foldedSetIterable iter X.env x = pure x := by intro _; rfl) :
    CE X W (.ListComp elt [⟨tg, iter, ifs, 0⟩] scope pos) (fLc mi (own.map (·.2)) g t e) :=
  fun ρ μ s σ H Q hs hm h => ⟨_, pe_lc G.calm hN pi_w ok pg_wb pts_wb pe_wb hs0, lc_reads hi hg ht he hsub hs hm h⟩
theorem cs_setLc {i : Nat} {y : Str} {py : Pos} {tg iter : Expr} {ifs : List Expr} {elt : Expr} {scope : Scope} {own : List (Str × Nat)} {pos spos : Pos} {mi : FI} {g : Tgt} {t : FT} {e : FE} (G : Good X W k) (hN : X.N.Nodup) (hy : X.N[i]? = some y) (hyl : X.env.scope.names.lookup y = some .local)
    (hsw : swapsWith (.ListComp elt [⟨tg, iter, ifs, 0⟩] scope pos) (some (.Name y py)) spos.line X.env = pure true) (ok : BlkOk X.N X.env.scope scope own) (hi : CI X W tg iter mi)
    (hg : ∀ s H0 C cl fp, CG (X.blk s H0 scope (compEnvC scope cl C X.env) fp) tg g) (ht : ∀ s H0 C cl fp, CTs (X.blk s H0 scope (compEnvC scope cl C X.env) fp) W0 ifs t)
    (he : ∀ s H0 C cl fp, CE (X.blk s H0 scope (compEnvC scope cl C X.env) fp) W0 elt e) (hsub : subT g (own.map (·.2)) = true)
    (hp : ∀ {wi : TI} {gg : TG} {tt : TT} {te : TE}, PI X tg iter wi → (∀ (s : Shared) (H : Hp) (C : Addr) (cl : List (Str × Addr)) (fp : List Addr), PG (X.blk s H scope (compEnvC scope cl C X.env) fp) tg gg) → (∀ (s : Shared) (H : Hp) (C : Addr) (cl : List (Str × Addr)) (fp : List Addr), PTs (X.blk s H scope (compEnvC scope cl C X.env) fp) ifs tt) →
      (∀ (s : Shared) (H : Hp) (C : Addr) (cl : List (Str × Addr)) (fp : List Addr), PE (X.blk s H scope (compEnvC scope cl C X.env) fp) elt te) → PS X (.Assign [.Name y py] (.ListComp elt [⟨tg, iter, ifs, 0⟩] scope pos) spos) (tAsg (tLc wi gg tt te (own.map (·.2))) (gName i))) :
    CS X W (.Assign [.Name y py] (.ListComp elt [⟨tg, iter, ifs, 0⟩] scope pos) spos) (sAsg (.one i) (fLc mi (own.map (·.2)) g t e)) := by
  intro ρ μ s σ H D hs hm h
  refine ⟨_, hp pi_w pg_wb pts_wb pe_wb, ?_⟩
  refine lc_reads (W := W) hi hg ht he hsub hs hm ?_
  exact PostS.bind hs h fun u μ1 x H1 ρ1 t1 r1 h1 => h1 _ H1 ρ1 (Stp.refl t1.mem) ((t1.s hs).set r1)

/-! ### a def -/
def spF (K : PySem.W.Frag) (mg : Str → Option Value) (n : Nat) (g : List U → Mem → Res U) : Sp := fun vs H Q E => vs.length = n ∧ ∃ ρ μ us, RepVs K H ρ us vs ∧ RepM K H ρ μ ∧ match g us μ with
  | .ok u μ' => ∀ v H' ρ', Stp K ρ H ρ' H' μ' → RepV K H' ρ' u v → Q v H'
  | .ex c μ' => ∀ cls H' ρ', Stp K ρ H ρ' H' μ' → mg c = some cls → E cls none H'
  | .bad => False
def fDef (n : Nat) (g : List U → Mem → Res U) (a : FA) : FE := fun s μ => (a s μ).bind fun us μ1 => if us.length = n then g us μ1 else .bad
theorem ce_def {f : Addr} {fd : FuncData} {ps : List Str} {g : List U → Mem → Res U} {x : Str} {e : Expr} {es : List Expr} {ma : FA} {p pos : Pos} {j : Nat} (G : Good X W j) (hj : k ≤ j) (F : FnOk X.prog X.w X.K X.mg X.base (L2.CX X.prog X.w) k f fd ps (spF X.K X.mg ps.length g))
    (ha : CA X W (e :: es) ma) (hp : ∀ {E : L2.St → XK} {t : TA}, (∀ σ, PassesAt (L2.CX X.prog X.w) X σ (E σ)) → PA X (e :: es) t → PE X (.Call (.Name x p) (e :: es) [] pos) (tCallS (spF X.K X.mg ps.length g) E t)) :
    CE X W (.Call (.Name x p) (e :: es) [] pos) (fDef ps.length g ma) := by
  intro ρ μ s σ H Q hs hm h
  refine ⟨_, hp (fun σ => passAt G.tk σ) pa_w, ?_⟩
  refine ha ρ μ s σ H _ hs hm (h.bind fun us μ1 vs H1 ρ1 t1 r1 h1 => ?_)
  split at h1
  · rename_i hl
    refine ⟨by rw [← RepVs.length r1]; exact hl, ρ1, μ1, us, r1, t1.mem, ?_⟩
    generalize g us μ1 = z at h1
    cases z with
    | ok u m => exact fun v H' ρ' t r => h1 v H' ρ' t r
    | ex c m => exact fun cls H' ρ' t e => h1 cls H' ρ' t e
    | bad => exact h1
  · exact h1.elim
def runDef (n : Nat) (body : FS) (us : List U) (μ : Mem) : Res U := match body (us.map some ++ List.replicate (n - us.length) none) μ with
  | .nx _ μ' => .ok .non μ'
  | .rt u μ' => .ok u μ'
  | .ex c _ μ' => .ex c μ'
  | _ => .bad
theorem RepS.start {K : PySem.W.Frag} {H : Hp} {ρ : List Addr} {us : List U} {vs : List V} {N : List Str} (r : RepVs K H ρ us vs) : RepS K H ρ (us.map some ++ List.replicate (N.length - us.length) none) (start N vs) := by
  refine ⟨by unfold L2.start; simp [r.length], fun i u e => ?_⟩
  by_cases hi : i < us.length
  · rw [List.getElem?_append_left (by simpa using hi), List.getElem?_map] at e
    cases eu : us[i]? with
    | none => rw [eu] at e; cases e
    | some w =>
      rw [eu] at e
      cases e
      obtain ⟨v, q, rr⟩ := r.get eu
      refine ⟨v, ?_, rr⟩
      unfold L2.start
      rw [List.getElem?_append_left (by rw [List.length_map, ← r.length]; exact hi), List.getElem?_map, q]
      rfl
  · rw [List.getElem?_append_right (by simpa using Nat.le_of_not_lt hi)] at e
    have := List.mem_of_getElem? e
    simp at this
theorem def_ok {P : Program} {w : World} {K : PySem.W.Frag} {mg : Str → Option Value} {base : Heap} {x qual : Str} {st : Stmt} {f : Addr} {fd : FuncData} {N ps : List Str} {k : Nat} {body : FS} (F : Fun K x qual st f fd) (S : FnScope N ps (defScope st))
    (hb : ∀ (cdv : Value) (A : Around) (outer : List Env) (s : Shared) (H : Hp) (E : XK), Good (cxOf (L2.CX P w) P w K mg base N qual (defScope st) f cdv A outer s H E) (fun cls d _ H => E cls d H) k →
      CSs (cxOf (L2.CX P w) P w K mg base N qual (defScope st) f cdv A outer s H E) (fun cls d _ H => E cls d H) (defBody st) body) :
    FnOk P w K mg base (L2.CX P w) (k + 1) f fd ps (spF K mg ps.length (runDef N.length body)) := by
  refine F.okX S (fun vs H Q E h => h.1) (fun cdv A outer s H vs Q E hr h => ?_)
  obtain ⟨hl, ρ, μ, us, r, hm, hq⟩ := h
  have G : Good (cxOf (L2.CX P w) P w K mg base N qual (defScope st) f cdv A outer s H E) (fun cls d _ H => E cls d H) k := ⟨rfl, hr, takes_of rfl rfl rfl rfl, passes_of rfl⟩
  refine hb cdv A outer s H E G ρ μ _ _ H _ (RepS.start r) hm ?_
  unfold runDef at hq
  cases e : body (us.map some ++ List.replicate (N.length - us.length) none) μ with
  | nx s' m => rw [e] at hq; exact fun σ' H' ρ' t _ => hq _ H' ρ' t .non
  | rt u m => rw [e] at hq; exact fun v H' ρ' t r => hq v H' ρ' t r
  | bk s' m => rw [e] at hq; exact hq.elim
  | ct s' m => rw [e] at hq; exact hq.elim
  | ex c s' m => rw [e] at hq; exact fun cls σ' H' ρ' t _ eq => hq cls H' ρ' t eq
  | bad => rw [e] at hq; exact hq.elim
end
end Dg
/-! Dg6: further rules: extend by a tuple, dict copies and displays, reversed copies, constants of the module, the end. -/
namespace Dg
open PySem PySem.Spec PyProof.Rows L2 RZ

/-! ### xs.extend(ys), ys a list or a tuple -/
theorem mt_extendA {X : Cx} : MtR X "list.extend" (fun x vs H Q => ∃ l b xs zs, x = .ref l ∧ vs = [.ref b] ∧ H l = some (.lst xs) ∧ (SqL X.K H b zs ∨ SqT X.K H b zs) ∧ xs.length + zs.length ≤ sizeLine ∧ Q .non (upd H l (.lst (xs ++ zs)))) := by
  intro pins s σ H x vs v us Q I rx rv h
  obtain ⟨l, b, xs, zs, rfl, rfl, hH, hB, hz, q⟩ := h
  cases rx
  obtain ⟨u, rfl, ru⟩ := rv.one
  cases ru
  obtain ⟨z, its, n, r, hl, e⟩ := I.lstM hH
  have main : ∀ (T : String) (hT : T = "list" ∨ T = "tuple") (its2 : List Value) (o : Obj) (n2 : Nat), Vals zs its2 → s.heap.get? b = some o → o.cls = .type T → o.data = .seq its2.toArray n2 →
      wpAny (model X.prog X.w) X.A (call (.builtin "list.extend") [.ref l, .ref b]) (EP X pins σ Q) X.xe s := by
    intro T hT its2 o n2 r2 ho hc hd
    have hsz : its.toArray.size + its2.toArray.size ≤ sizeLine := by
      rw [List.size_toArray, List.size_toArray, ← r.length, ← r2.length]; exact hz
    have hlong : (!its.toArray.isEmpty && Builtin.List.listTooLong (its.toArray.size + its2.toArray.size)) = false := by
      rw [notLongL hsz, Bool.and_false]
    refine call_meets (S := fun _ R s' => s' = s ∧ R (.ok (.ret Value.none)) { s with heap := s.heap.update l (Obj.mapSeq fun x => x ++ its2.toArray) }) F.slot_list_extend ⟨_, e, rfl⟩ F.entry_list_extend (F.args_list_extend_2 _ _) ?_ ⟨rfl, ?_⟩
    · intro prog w A R s' hs
      obtain ⟨rfl, hR⟩ := hs
      show wpAny _ A.in1 (Builtin.List.listExtendWith (.ref l) (.ref b) .none) _ _ _
      unfold Builtin.List.listExtendWith
      refine wpAny_bind (wpAny_typeOf ⟨o, ho, hc⟩ ?_)
      have h1 : (Builtin.List.listSameRef (.ref l) (.ref b) || Value.type T == Value.type "list" || Value.type T == Value.type "tuple") = true := by
        rcases hT with rfl | rfl <;> simp
      simp only [h1, if_true]
      refine wpAny_bind ?_
      unfold Builtin.List.listItems
      refine wpAny_bind (wpAny_seqItems ho hd (wpAny_pure ?_))
      refine wpAny_bind ?_
      refine wpAny_bind (wpAny_seqItems e rfl (wpAny_pure ?_))
      rw [hlong]
      simp only [Bool.false_eq_true, if_false]
      refine wpAny_bind (wpAny_updateSeq e rfl ?_)
      exact wpAny_pure hR
    · refine ⟨.non, _, I.lset (its' := its ++ its2) (t' := s.toks) hH e (by simp) (r.append r2) ?_, rfl, q⟩
      rw [List.length_append]; exact hz
  rcases hB with hB | hB
  · obtain ⟨its2, r2, pl, hz2⟩ := I.list hB
    obtain ⟨o, ho, hc, n2, hd⟩ := pl.isList
    exact main "list" (.inl rfl) its2 o n2 r2 ho hc hd
  · obtain ⟨its2, r2, pl, hz2⟩ := I.tuple hB
    obtain ⟨o, ho, hc, n2, hd⟩ := pl
    exact main "tuple" (.inr rfl) its2 o n2 r2 ho hc hd
section
variable {X : Cx} {W : WX} {k : Nat}
def gExt (u : U) (us : List U) (μ : Mem) : Res U := match u, us with
  | .ref i, [w] => match μ[i]?, seqU μ w with
    | some (.lst xs), some ys => if xs.length + ys.length ≤ lim then .ok .non (μ.set i (.lst (xs ++ ys))) else .bad
    | _, _ => .bad
  | _, _ => .bad
theorem gs_ext : MtS X W "list.extend" gExt := by
  intro ρ μ σ H u us x vs Q hm ru rus h
  unfold gExt at h
  split at h
  · split at h
    · rename_i e e2
      split at h
      · cases ru with
        | ref hr =>
          cases rus with
          | cons r1 r2 =>
            cases r2
            obtain ⟨ws, q, rr⟩ := lst_of hm hr e
            obtain ⟨b, zs, rfl, q2, rr2⟩ := seqU_ok hm r1 e2
            exact ⟨_, mt_extendA, _, b, ws, zs, rfl, rfl, q, q2, by rw [← rr.length, ← rr2.length]; exact lim_le (by assumption), h.ok (putL hm hr e (rr.append rr2)) .non⟩
      · exact h.elim
    · exact h.elim
  · exact h.elim

/-! ### xs[::-1] -/
def fRevL (a : FE) : FE := fun s μ => (a s μ).bind fun u μ1 => match lstU μ1 u with
  | some us => .ok (.ref μ1.length) (μ1 ++ [.lst us.reverse])
  | none => .bad
theorem ce_revL {e : Expr} {me : FE} {j : Nat} {p1 p2 p3 pos : Pos} (he : CE X W e me) : CE X W (.Subscript e (.Slice none none (some (.UnaryOp .USub (.Constant (.int 1) j p1) p2)) p3) pos) (fRevL me) := by
  intro ρ μ s σ H Q hs hm h
  refine ⟨_, pe_revL pe_w, ?_⟩
  refine he ρ μ s σ H _ hs hm (h.bind fun u μ1 x H1 ρ1 t1 r1 h1 => ?_)
  split at h1
  · rename_i us e1
    obtain ⟨a, vs, rfl, q1, r2⟩ := lstU_ok t1.mem r1 e1
    exact ⟨_, _, rfl, q1, fun p np => h1.ok (newL t1.mem np r2.reverse) (refN t1.mem)⟩
  · exact h1.elim

/-! ### dict(d), {}, {k: v, ..} -/
def bDict (us : List U) (μ : Mem) : Res U := match us with
  | [u] => match dctU μ u with
    | some kus => .ok (.ref μ.length) (μ ++ [.dct kus])
    | none => .bad
  | _ => .bad
theorem cs_dict : CallS X W (.type "dict") bDict := by
  intro ρ μ σ H us vs Q hm r h
  unfold bDict at h
  split at h
  · cases r with
    | cons ru r0 =>
      cases r0
      split at h
      · rename_i kus e
        obtain ⟨a, kvs, rfl, q1, r1⟩ := dct_at hm ru e
        exact ⟨_, call_dictD, a, kvs, rfl, .inl q1, fun p np => h.ok (newD hm np r1) (refN hm)⟩
      · exact h.elim
  · exact h.elim
def fD0 : FE := fun _ μ => .ok (.ref μ.length) (μ ++ [.dct []])
theorem ce_d0 {pos : Pos} : CE X W (.Dict [] [] pos) fD0 := fun ρ μ s σ H Q hs hm h => ⟨_, pe_dnewK, fun p np => h.ok (newD hm np RepKV.nil) (refN hm)⟩

/-! ### constants of the module -/
def GlobC (K : PySem.W.Frag) (mg : Str → Option Value) (x : Str) (u : U) : Prop := ∃ z v, mg x = some z ∧ RelV v z ∧ ∀ H ρ, RepV K H ρ u v
theorem ce_globC {x : Str} {u : U} {pos : Pos} (hg : Gl X x) (h : GlobC X.K X.mg x u) (hd : (x == ("__debug__" : Str)) = false := by decide) : CE X W (.Name x pos) (fC u) := by
  obtain ⟨z, v, h1, h2, h3⟩ := h
  exact ce_glob hg h1 h2 h3 hd
/-- a dict of the module with text keys, asked by a key that is there -/
def KTab (K : PySem.W.Frag) (mg : Str → Option Value) (w : World) (x : Str) (tab : List (Str × U)) : Prop := ∃ a, mg x = some (.ref a) ∧ ∀ z u, tab.lookup z = some u → ∃ v, KDct K w a z v ∧ ∀ H ρ, RepV K H ρ u v
def fKGet (tab : List (Str × U)) (i : FE) : FE := fun s μ => (i s μ).bind fun u μ1 => match u with
  | .str z => opt (tab.lookup z) μ1
  | _ => .bad
theorem ce_kget {x : Str} {tab : List (Str × U)} {i : Expr} {mi : FE} {p pos : Pos} (hg : Gl X x) (h : KTab X.K X.mg X.w x tab) (hi : CE X W i mi) (hp : PlainIx i := by exact fun _ _ => rfl) (hd : (x == ("__debug__" : Str)) = false := by decide) :
    CE X W (.Subscript (.Name x p) i pos) (fKGet tab mi) := by
  intro ρ μ s σ H Q hs hm q
  obtain ⟨a, h1, h2⟩ := h
  refine ⟨_, pe_ix ix_kdict (pe_glob hg h1 (v := .ref a) rfl hd) pe_w hp, ?_⟩
  refine hi ρ μ s σ H _ hs hm (q.bind fun u μ1 y H1 ρ1 t1 r1 h3 => ?_)
  split at h3
  · rename_i z
    cases r1
    cases e : tab.lookup z with
    | none => rw [e] at h3; exact h3.elim
    | some w =>
      rw [e] at h3
      obtain ⟨v, h4, h5⟩ := h2 z w e
      exact ⟨a, z, v, rfl, rfl, h4, h3.ok (Stp.refl t1.mem) (h5 _ _)⟩
  · exact h3.elim

/-! ### a def without arguments -/
theorem pe_call0S {f : Addr} {fd : FuncData} {ps : List Str} {sp : Sp} {CX : CXT} {E : L2.St → XK} {x : Str} {p pos : Pos} (F : FnOk X.prog X.w X.K X.mg X.base CX k f fd ps sp) (hr : Room k X.A) (hg : Gl X x) (hm : X.mg x = some (.ref f)) (hk : PySem.W.keepIn X.K (.ref f) = true) (hb : Binds X.K fd ps []) (hx : ∀ σ, PassesAt CX X σ (E σ))
    (hdb : (x == ("__debug__" : Str)) = false := by decide) : PE X (.Call (.Name x p) [] [] pos) (fun σ H Q => sp [] H Q (E σ)) := by
  refine ⟨fun pins s σ H Q I h => ?_⟩
  refine wpAny_Call_Name_kw (ld_glob I hg hm ?_ hdb)
  exact PySem.W.callWith_K0 I.kIn hk (run_fnS (us := []) F hr hb (hx σ) I .nil h)
theorem ce_def0 {f : Addr} {fd : FuncData} {ps : List Str} {g : List U → Mem → Res U} {x : Str} {p pos : Pos} {j : Nat} (G : Good X W j) (F : FnOk X.prog X.w X.K X.mg X.base (L2.CX X.prog X.w) k f fd ps (spF X.K X.mg ps.length g))
    (hp : ∀ {E : L2.St → XK}, (∀ σ, PassesAt (L2.CX X.prog X.w) X σ (E σ)) → PE X (.Call (.Name x p) [] [] pos) (fun σ H Q => spF X.K X.mg ps.length g [] H Q (E σ))) :
    CE X W (.Call (.Name x p) [] [] pos) (fDef ps.length g aNil) := by
  intro ρ μ s σ H Q hs hm h
  refine ⟨_, hp (fun σ => passAt G.tk σ), ?_⟩
  have h1 : Post X W σ relV ρ H (if ([] : List U).length = ps.length then g [] μ else .bad) Q := h
  split at h1
  · rename_i hl
    refine ⟨hl, ρ, μ, [], .nil, hm, ?_⟩
    generalize g [] μ = z at h1
    cases z with
    | ok u m => exact fun v H' ρ' t r => h1 v H' ρ' t r
    | ex c m => exact fun cls H' ρ' t e => h1 cls H' ρ' t e
    | bad => exact h1
  · exact h1.elim

/-! ### a comprehension's frame -/
theorem Good.blk {s : Shared} {H : Hp} {scope : Scope} {cenv : Env} {fp : List Addr} (G : Good X W k) : Good (X.blk s H scope cenv fp) W0 k := ⟨G.calm, ⟨G.room.hd, G.room.dp, G.room.un⟩, takes0, PassesOwn.never⟩
end

/-! ### a def that is never well asked -/
theorem fn_bad {P : Program} {w : World} {K : PySem.W.Frag} {mg : Str → Option Value} {base : Heap} {CX : CXT} {k : Nat} {f : Addr} {fd : FuncData} {ps : List Str} : FnOk P w K mg base CX k f fd ps (spF K mg ps.length fun _ _ => .bad) := by
  have no : ∀ vs H Q E, ¬ spF K mg ps.length (fun _ _ => .bad) vs H Q E := fun vs H Q E ⟨_, _, _, _, _, _, h⟩ => h
  exact ⟨fun vs H Q E h => h.1, fun A outer s H args us vs Q E _ _ _ _ h => absurd h (no vs H Q E)⟩

/-! ### the end of a law -/
theorem end_of {K : PySem.W.Frag} {mg : Str → Option Value} {g : List U → Mem → Res U} {H : Hp} {a : Addr} {ns : List Int} (h : ∃ μ, g [.frl (ns.map U.int)] [] = .ok (.bl true) μ) (ho : Only H) (hS : SqL K H a (ns.map V.int)) :
    spF K mg 1 g [.ref a] H (fun v _ => v = .bl true) fun _ _ _ => False := by
  obtain ⟨μ, e⟩ := h
  have fr : FrL K H a (ns.map V.int) := by
    rcases hS with (h | ⟨o, h⟩) | h
    · rcases ho a with q | ⟨o, xs, q⟩ <;> (rw [h] at q; cases q)
    · exact .inl ⟨o, h⟩
    · exact .inr h
  refine ⟨rfl, [], [], [.frl (ns.map U.int)], .one (.frl fr (RepVs.ofInts ns)), ⟨rfl, List.nodup_nil, fun i c e => by simp at e⟩, ?_⟩
  rw [e]
  intro v H' ρ' _ r
  cases r
  rfl

/-! ### built-ins by name -/
theorem bt_len : bootBuiltins "len" = some (.builtin "len") := by decide +kernel
theorem bt_abs : bootBuiltins "abs" = some (.builtin "abs") := by decide +kernel
theorem bt_max : bootBuiltins "max" = some (.builtin "max") := by decide +kernel
theorem bt_min : bootBuiltins "min" = some (.builtin "min") := by decide +kernel
theorem bt_sum : bootBuiltins "sum" = some (.builtin "sum") := by decide +kernel
theorem bt_all : bootBuiltins "all" = some (.builtin "all") := by decide +kernel
theorem bt_any : bootBuiltins "any" = some (.builtin "any") := by decide +kernel
theorem bt_sorted : bootBuiltins "sorted" = some (.builtin "sorted") := by decide +kernel
theorem bt_isinstance : bootBuiltins "isinstance" = some (.builtin "isinstance") := by decide +kernel
theorem bt_int : bootBuiltins "int" = some (.type "int") := by decide +kernel
theorem bt_bool : bootBuiltins "bool" = some (.type "bool") := by decide +kernel
theorem bt_str : bootBuiltins "str" = some (.type "str") := by decide +kernel
theorem bt_list : bootBuiltins "list" = some (.type "list") := by decide +kernel
theorem bt_tuple : bootBuiltins "tuple" = some (.type "tuple") := by decide +kernel
theorem bt_dict : bootBuiltins "dict" = some (.type "dict") := by decide +kernel
theorem kt_int : ∀ t ∈ ["NoneType", "bool", "int", "str", "tuple", "list", "dict"], kitB t "int" = some (isTy "int" t) := by decide +kernel
theorem kt_bool : ∀ t ∈ ["NoneType", "bool", "int", "str", "tuple", "list", "dict"], kitB t "bool" = some (isTy "bool" t) := by decide +kernel
theorem kt_str : ∀ t ∈ ["NoneType", "bool", "int", "str", "tuple", "list", "dict"], kitB t "str" = some (isTy "str" t) := by decide +kernel
theorem kt_list : ∀ t ∈ ["NoneType", "bool", "int", "str", "tuple", "list", "dict"], kitB t "list" = some (isTy "list" t) := by decide +kernel
theorem kt_tuple : ∀ t ∈ ["NoneType", "bool", "int", "str", "tuple", "list", "dict"], kitB t "tuple" = some (isTy "tuple" t) := by decide +kernel
theorem kt_dict : ∀ t ∈ ["NoneType", "bool", "int", "str", "tuple", "list", "dict"], kitB t "dict" = some (isTy "dict" t) := by decide +kernel
end Dg
/-! Dg7: the head's facts for the mirror: constants by value, tables, defs. -/
namespace Dg
open PySem PySem.Spec PyProof.Rows L2 RZ

/-! ### a value of the written part is one of the mirror's -/
def repB (K : PySem.W.Frag) : Nat → Value → U → Bool
  | 0, _, _ => false
  | n + 1, v, u => match u with
    | .non => (match v with
      | .none => true
      | _ => false)
    | .bl b => (match v with
      | .bool c => decide (c = b)
      | _ => false)
    | .int i => (match v with
      | .int j _ => decide (j = i)
      | _ => false)
    | .str x => (match v with
      | .str y _ => decide (y = x) && PyData.strOk x
      | _ => false)
    | .tup us => (match v with
      | .ref a => (match K.lookup a with
        | some ⟨.type c, _, .seq its _, _⟩ => decide (c = "tuple") && (Nat.ble its.size 1000 && (decide (its.toList.length = us.length) && (its.toList.zip us).all fun p => repB K n p.1 p.2))
        | _ => false)
      | _ => false)
    | _ => false
def Reps (K : PySem.W.Frag) (v : Value) (u : U) : Prop := ∃ x, RelV x v ∧ ∀ H ρ, RepV K H ρ u x
theorem reps_all {K : PySem.W.Frag} {n : Nat} (ih : ∀ v u, repB K n v u = true → Reps K v u) : ∀ (its : List Value) (us : List U), its.length = us.length → ((its.zip us).all fun p => repB K n p.1 p.2) = true → ∃ vs, Vals vs its ∧ ∀ H ρ, RepVs K H ρ us vs
  | [], [], _, _ => ⟨[], .nil, fun _ _ => .nil⟩
  | [], _ :: _, h, _ => by simp at h
  | _ :: _, [], h, _ => by simp at h
  | v :: its, u :: us, h, q => by
    simp only [List.zip_cons_cons, List.all_cons, Bool.and_eq_true] at q
    obtain ⟨x, r1, r2⟩ := ih v u q.1
    obtain ⟨vs, s1, s2⟩ := reps_all ih its us (by simpa using h) q.2
    exact ⟨x :: vs, .cons r1 s1, fun H ρ => .cons (r2 H ρ) (s2 H ρ)⟩
theorem repB_ok {K : PySem.W.Frag} : ∀ (n : Nat) (v : Value) (u : U), repB K n v u = true → Reps K v u
  | 0, _, _, h => by simp [repB] at h
  | n + 1, v, u, h => by
    cases u with
    | non => cases v <;> first | exact ⟨.non, rfl, fun _ _ => .non⟩ | (simp [repB] at h)
    | bl b => cases v <;> first | (simp [repB] at h; subst h; exact ⟨.bl _, rfl, fun _ _ => .bl⟩) | (simp [repB] at h)
    | int i => cases v <;> first | (simp [repB] at h; subst h; exact ⟨.int _, ⟨_, rfl⟩, fun _ _ => .int⟩) | (simp [repB] at h)
    | str x => cases v <;> first | (simp [repB] at h; obtain ⟨h1, h2⟩ := h; subst h1; exact ⟨.str _, ⟨_, rfl⟩, fun _ _ => .str h2⟩) | (simp [repB] at h)
    | tup us =>
      cases v with
      | ref a =>
        simp only [repB] at h
        split at h
        · rename_i o c od its m sl e
          simp only [Bool.and_eq_true, decide_eq_true_eq] at h
          obtain ⟨h1, h2, h3, h4⟩ := h
          subst h1
          obtain ⟨vs, s1, s2⟩ := reps_all (fun v u q => repB_ok n v u q) its.toList us h3 h4
          refine ⟨.ref a, rfl, fun H ρ => .tup (.inr ⟨_, its, m, e, rfl, rfl, ?_, s1⟩) (s2 H ρ)⟩
          exact Nat.le_trans (Nat.le_of_ble_eq_true h2) (by decide)
        · cases h
      | _ => simp [repB] at h
    | ref i => simp [repB] at h
    | frl us => simp [repB] at h

/-! ### the facts -/
def keyN (e : DictEntry) : Option Str := match e.key with
  | .str x _ => some x
  | _ => none
def keysB (K : PySem.W.Frag) (a : Addr) (ks : List Str) : Bool := match K.lookup a with
  | some ⟨_, _, .dict es _, _⟩ => decide (es.toList.map keyN = ks.map some)
  | _ => false
inductive FaU where
  | con (x : Str) (u : U)
  | tab (x : Str) (kvs : List (Str × U))
  | isx (x y : Str) (b : Bool)
  | isv (x y : Str) (b : Bool)
  | keys (x : Str) (ks : List Str)
def exC (K : PySem.W.Frag) (D : Addr) : Bool := He.eqO (PySem.W.findIn K (.ref D) "__getattribute__") (some (some (.builtin "BaseException.__getattribute__"))) && (He.eqO (PySem.W.findIn K (.ref D) "__getattr__") (some none) &&
  (decide (PySem.W.subIn K (.ref D) (.type "BaseException") = some true) && (PySem.W.hasDictIn K D && (He.eqO (PySem.W.findIn K (.ref D) "__class__") (some (some (.builtin "object.__class__"))) &&
  (He.eqO (PySem.W.specialIn K (.builtin "object.__class__") "__get__") (some (some (.builtin "getset_descriptor.__get__"))) && (decide (PySem.W.takesIn K (.builtin "object.__class__") = some true) && decide (PySem.W.mroIn K D (.type "object") = some true)))))))
def FaU.ok (K : PySem.W.Frag) : FaU → Bool
  | .con x u => (match PySem.W.nsIn K mainGlobals x with
    | some (some v) => repB K 12 v u
    | _ => false)
  | .tab x kvs => kvs.all fun q => (match PySem.W.nsIn K (He.ga K x) q.1 with
    | some (some v) => repB K 12 v q.2
    | _ => false)
  | .isx x y b => exC K (He.ga K x) && decide (PySem.W.kitOne K (.ref (He.ga K x)) (.ref (He.ga K y)) = some b)
  | .isv x y b => exC K (He.ga K x) && decide (y = ("ValueError" : Str)) && decide (PySem.W.kitOne K (.ref (He.ga K x)) (.type "ValueError") = some b)
  | .keys x ks => keysB K (He.ga K x) ks
abbrev AlU : Type := He.AlT × Bool
def obsU (fa : List He.Fa) (fn : List He.DefD) (ts : List He.Tab) (fu : List FaU) (K : PySem.W.Frag) : AlU := (He.obsT fa fn ts K, fu.all fun f => f.ok K)
def valU' (fn : List He.DefD) (ts : List He.Tab) (w : World) : AlU := (He.valT fn ts w, true)
def SaysU (fa : List He.Fa) (fn : List He.DefD) (ts : List He.Tab) (fu : List FaU) (w : World) (K : PySem.W.Frag) : Prop := obsU fa fn ts fu K = valU' fn ts w
def obsUG (n : Nat) (fa : List He.Fa) (fn : List He.DefD) (ts : List He.Tab) (fu : List FaU) (g : Addr → Option Obj) : AlU := obsU fa fn ts fu (He.frG g (He.asD g n))
def hookU (n : Nat) (fa : List He.Fa) (fn : List He.DefD) (ts : List He.Tab) (fu : List FaU) : PySem.W.Hook where
  α := AlU
  obs := fun s => obsUG n fa fn ts fu s.heap.get?
  val := fun w => valU' fn ts w
  says := fun w h => ∃ K : PySem.W.Frag, K.In h ∧ SaysU fa fn ts fu w K
  of := fun _ _ e => ⟨_, He.frG_in, e⟩
  keeps := fun _ _ _ ⟨K, hK, c⟩ k => ⟨K, PySem.W.Frag.In.keeps hK k, c⟩
theorem obsUG_eq {n : Nat} {fa : List He.Fa} {fn : List He.DefD} {ts : List He.Tab} {fu : List FaU} {g : Addr → Option Obj} {s : Shared} (h : ∀ a, g a = s.heap.get? a) : obsUG n fa fn ts fu g = (hookU n fa fn ts fu).obs s := by
  have e : g = s.heap.get? := funext h
  rw [e] <;> rfl
section
variable {fa : List He.Fa} {fn : List He.DefD} {ts : List He.Tab} {fu : List FaU} {w : World} {K : PySem.W.Frag} {h : Heap} {mg : Str → Option Value}
theorem SaysU.t (c : SaysU fa fn ts fu w K) : He.SaysT fa fn ts w K := congrArg (fun z : AlU => z.1) c
theorem SaysU.f (c : SaysU fa fn ts fu w K) (i : Nat) {f : FaU} (hf : fu[i]? = some f := by rfl) : f.ok K = true := by
  have e : (fu.all fun f => f.ok K) = true := congrArg (fun z : AlU => z.2) c
  exact List.all_eq_true.mp e f (List.mem_of_getElem? hf)
theorem con_ok (X : K.In h) (G : h.Ns mainGlobals mg) {x : Str} {u : U} (c : (FaU.con x u).ok K = true) : GlobC K mg x u := by
  simp only [FaU.ok] at c
  cases e : PySem.W.nsIn K mainGlobals x with
  | none => rw [e] at c; cases c
  | some r =>
    rw [e] at c
    cases r with
    | none => cases c
    | some v =>
      obtain ⟨y, r1, r2⟩ := repB_ok 12 v u c
      exact ⟨v, y, PySem.W.mg_of X G e, r1, r2⟩
theorem tab_ok (X : K.In h) (G : h.Ns mainGlobals mg) {x : Str} {kvs : List (Str × U)} {es : Array DictEntry} {n : Nat} (c : (FaU.tab x kvs).ok K = true) (g : (He.Fa.glo x).ok K = true) (D : KDict K w (He.ga K x) es n) : KTab K mg w x kvs := by
  refine ⟨He.ga K x, He.glo_ok X G g, fun z u hz => ?_⟩
  have hm : (z, u) ∈ kvs := by
    clear c
    induction kvs with
    | nil => cases hz
    | cons p r ih =>
      rw [List.lookup_cons] at hz
      split at hz
      · rename_i e
        cases hz
        have e2 := beq_iff_eq.mp e
        subst e2
        exact List.mem_cons_self
      · exact List.mem_cons_of_mem _ (ih hz)
  simp only [FaU.ok] at c
  have q := List.all_eq_true.mp c (z, u) hm
  simp only at q
  cases e : PySem.W.nsIn K (He.ga K x) z with
  | none => rw [e] at q; cases q
  | some r =>
    rw [e] at q
    cases r with
    | none => cases q
    | some v =>
      obtain ⟨y, r1, r2⟩ := repB_ok 12 v u q
      exact ⟨y, ⟨es, n, v, D.at_, D.lit, e, r1⟩, r2⟩
end

/-! ### a def by its body, from such facts -/
abbrev FnP (K : PySem.W.Frag) (x : Str) (st : Stmt) (f : Addr) (fd : FuncData) : Prop := FunD K x x (defArgs st) (defBody st) (defScope st) [] [] f fd
theorem defD_ok {P : Program} {w : World} {K : PySem.W.Frag} {mg : Str → Option Value} {base : Heap} {x : Str} {st : Stmt} {f : Addr} {fd : FuncData} {N ps : List Str} {k : Nat} {body : FS} (F : FnP K x st f fd) (S : FnScope N ps (defScope st))
    (hb : ∀ (cdv : Value) (A : Around) (outer : List Env) (s : Shared) (H : Hp) (E : XK), Good (cxOf (L2.CX P w) P w K mg base N x (defScope st) f cdv A outer s H E) (fun cls d _ H => E cls d H) k →
      CSs (cxOf (L2.CX P w) P w K mg base N x (defScope st) f cdv A outer s H E) (fun cls d _ H => E cls d H) (defBody st) body) :
    FnOk P w K mg base (L2.CX P w) (k + 1) f fd ps (spF K mg ps.length (runDef N.length body)) := by
  refine F.ok S (fun vs H Q E h => h.1) (fun cdv A outer s H vs Q E hr h => ?_)
  obtain ⟨hl, ρ, μ, us, r, hm, hq⟩ := h
  have G : Good (cxOf (L2.CX P w) P w K mg base N x (defScope st) f cdv A outer s H E) (fun cls d _ H => E cls d H) k := ⟨rfl, hr, takes_of rfl rfl rfl rfl, passes_of rfl⟩
  refine hb cdv A outer s H E G ρ μ _ _ H _ (RepS.start r) hm ?_
  unfold runDef at hq
  cases e : body (us.map some ++ List.replicate (N.length - us.length) none) μ with
  | nx s' m => rw [e] at hq; exact fun σ' H' ρ' t _ => hq _ H' ρ' t .non
  | rt u m => rw [e] at hq; exact fun v H' ρ' t r => hq v H' ρ' t r
  | bk s' m => rw [e] at hq; exact hq.elim
  | ct s' m => rw [e] at hq; exact hq.elim
  | ex c s' m => rw [e] at hq; exact fun cls σ' H' ρ' t _ eq => hq cls H' ρ' t eq
  | bad => rw [e] at hq; exact hq.elim
/-- the end over a head by facts, what a def lets out told by the world -/
theorem walk_dg {l : PySem.W.OpenLaw} {n k : Nat} {q : Program} {loose : List Str} {XP : (Str → Option Value) → Heap → Prop} {YP : World → Heap → Prop} {d : DefRec} {CX : World → CXT} {x : Str}
    (hn : l.most = some n) (hl : n ≤ sizeLine) (hdf : d.params.defaults = []) (hr : Room k callerA) (hCX : ∀ (w : World) (H : Hp) (s : Shared) (e : Value) (s' : Shared), CX w [] H s (fun _ _ _ => False) e s' → False)
    (F : ∀ (w : World) (mg : Str → Option Value) (fa : Addr) (h : Heap), YP w h → h.Ns mainGlobals mg → mg d.name = some (.ref fa) → ∃ (K : PySem.W.Frag) (fd : FuncData) (sp : Sp), K.In h ∧
      (∀ (s : Shared) (u : Value), BindsTo s fd ⟨[u], []⟩ [(x, u)]) ∧ (∀ (H : Hp) (a : Addr) (ns : List Int), ns.length ≤ n → Only H → SqL K H a (ns.map V.int) → sp [.ref a] H (fun v _ => v = .bl true) fun _ _ _ => False) ∧
      ∀ base : Heap, K.In base → base.Ns mainGlobals mg → FnOk l.prog w K mg base (CX w) k fa fd [x] sp) :
    PySem.W.WalkO q loose XP YP l.row.toRowW d [] (fun f vs => PySem.call f vs) := by
  refine Att.attach_call hn hdf fun w s0 s1 mg mb fa o pm cd doc a vs ns G Y ho hd hcd hmg hob hi hle hg => ?_
  obtain ⟨K, fd, sp, KX, hb, hsp, hF⟩ := F w mg fa _ Y G.T.g hmg
  refine law_call KX G.T.g G.T.b G.T.builtins G.T.nolimit hg hob hi (Nat.le_trans hle hl) hr hF hb ?_ ?_
  · exact fun H hO hS => hsp H a ns hle hO hS
  · exact fun H e s' => hCX w H s1 e s'
theorem cx_none {P : Program} {w : World} (H : Hp) (s : Shared) (e : Value) (s' : Shared) (h : L2.CX P w [] H s (fun _ _ _ => False) e s') : False := by
  obtain ⟨_, _, _, _, _, _, _, _, _, _, _, _, z⟩ := h
  exact z.elim
end Dg
/-! Dg8: reckoning with mirrors: what is wanted behind an expression, a statement. -/
namespace Dg
open PySem PySem.Spec PyProof.Rows L2 RZ

def wpE {α : Type} (r : Res α) (Q : α → Mem → Prop) (E : Str → Mem → Prop) : Prop := match r with
  | .ok a μ => Q a μ
  | .ex c μ => E c μ
  | .bad => False
structure Dn where
  nx : Slots → Mem → Prop
  rt : U → Mem → Prop
  bk : Slots → Mem → Prop
  ct : Slots → Mem → Prop
  ex : Str → Slots → Mem → Prop
def wpS (o : Out) (D : Dn) : Prop := match o with
  | .nx s μ => D.nx s μ
  | .rt u μ => D.rt u μ
  | .bk s μ => D.bk s μ
  | .ct s μ => D.ct s μ
  | .ex c s μ => D.ex c s μ
  | .bad => False
section
variable {α β : Type} {s : Slots} {μ : Mem} {E : Str → Mem → Prop} {D : Dn}
theorem wpE.mono {r : Res α} {Q Q' : α → Mem → Prop} (h : wpE r Q E) (k : ∀ a μ', Q a μ' → Q' a μ') : wpE r Q' E := by
  cases r with
  | ok a m => exact k a m h
  | ex c m => exact h
  | bad => exact h
theorem wpE.get {r : Res α} {Q : α → Mem → Prop} (h : wpE r Q fun _ _ => False) : ∃ a μ', r = .ok a μ' ∧ Q a μ' := by
  cases r with
  | ok a m => exact ⟨a, m, rfl, h⟩
  | ex c m => exact h.elim
  | bad => exact h.elim
theorem wpE.of {r : Res α} {Q : α → Mem → Prop} {a : α} {μ' : Mem} (e : r = .ok a μ') (q : Q a μ') : wpE r Q E := by
  rw [e]; exact q
theorem wpS.mono {o : Out} {D D' : Dn} (h : wpS o D) (n : ∀ s μ, D.nx s μ → D'.nx s μ) (r : ∀ u μ, D.rt u μ → D'.rt u μ) (b : ∀ s μ, D.bk s μ → D'.bk s μ) (c : ∀ s μ, D.ct s μ → D'.ct s μ) (e : ∀ x s μ, D.ex x s μ → D'.ex x s μ) : wpS o D' := by
  cases o with
  | nx s m => exact n s m h
  | rt u m => exact r u m h
  | bk s m => exact b s m h
  | ct s m => exact c s m h
  | ex x s m => exact e x s m h
  | bad => exact h
theorem w_bind {r : Res α} {k : α → Mem → Res β} {Q : β → Mem → Prop} : wpE (r.bind k) Q E = wpE r (fun a μ => wpE (k a μ) Q E) E := by cases r <;> rfl
theorem w_var {i : Nat} {Q : U → Mem → Prop} : wpE (fVar i s μ) Q E = ∃ u, s[i]? = some (some u) ∧ Q u μ := by
  unfold fVar
  split
  · rename_i u e
    apply propext
    exact ⟨fun q => ⟨u, e, q⟩, fun ⟨w, e2, q⟩ => by rw [e] at e2; cases e2; exact q⟩
  · rename_i h
    apply propext
    exact ⟨fun q => q.elim, fun ⟨w, e2, q⟩ => absurd e2 (h w)⟩
theorem w_c {u : U} {Q : U → Mem → Prop} : wpE (fC u s μ) Q E = Q u μ := propext ⟨fun h => h, fun h => h⟩
theorem w_op {f : U → U → Mem → Res U} {a b : FE} {Q : U → Mem → Prop} : wpE (fOp f a b s μ) Q E = wpE (a s μ) (fun u μ1 => wpE (b s μ1) (fun w μ2 => wpE (f u w μ2) Q E) E) E := by
  unfold fOp; rw [w_bind]; congr 1; funext u μ1; rw [w_bind]
theorem w_res {α : Type} {o : Option α} {Q : α → Mem → Prop} : wpE (opt o μ) Q E = ∃ a, o = some a ∧ Q a μ := by
  cases o with
  | none => apply propext; exact ⟨fun h => h.elim, fun ⟨a, e, _⟩ => nomatch e⟩
  | some a => apply propext; exact ⟨fun h => ⟨a, rfl, h⟩, fun ⟨b, e, h⟩ => by cases e; exact h⟩
theorem w_resB {o : Option Bool} {Q : U → Mem → Prop} : wpE (Dg.resB o μ) Q E = ∃ b, o = some b ∧ Q (.bl b) μ := by
  cases o with
  | none => apply propext; exact ⟨fun h => h.elim, fun ⟨a, e, _⟩ => nomatch e⟩
  | some a => apply propext; exact ⟨fun h => ⟨a, rfl, h⟩, fun ⟨b, e, h⟩ => by cases e; exact h⟩
theorem w_eq {u w : U} {Q : U → Mem → Prop} : wpE (uEq u w μ) Q E = ∃ b, eqU u w μ = some b ∧ Q (.bl b) μ := w_resB
theorem w_ne {u w : U} {Q : U → Mem → Prop} : wpE (uNe u w μ) Q E = ∃ b, eqU u w μ = some b ∧ Q (.bl (!b)) μ := by
  unfold uNe; rw [w_resB]
  apply propext
  constructor
  · rintro ⟨b, e, q⟩
    cases h : eqU u w μ with
    | none => rw [h] at e; cases e
    | some c => rw [h] at e; cases e; exact ⟨c, rfl, q⟩
  · rintro ⟨b, e, q⟩
    exact ⟨!b, by rw [e]; rfl, q⟩
theorem w_in {u w : U} {Q : U → Mem → Prop} : wpE (uIn u w μ) Q E = ∃ b, inU u w μ = some b ∧ Q (.bl b) μ := w_resB
theorem w_nin {u w : U} {Q : U → Mem → Prop} : wpE (uNin u w μ) Q E = ∃ b, inU u w μ = some b ∧ Q (.bl (!b)) μ := by
  unfold uNin; rw [w_resB]
  apply propext
  constructor
  · rintro ⟨b, e, q⟩
    cases h : inU u w μ with
    | none => rw [h] at e; cases e
    | some c => rw [h] at e; cases e; exact ⟨c, rfl, q⟩
  · rintro ⟨b, e, q⟩
    exact ⟨!b, by rw [e]; rfl, q⟩
theorem eq_str {a b : Str} : eqU (.str a) (.str b) μ = some (decide (a = b)) := by
  have : eqU (.str a) (.str b) μ = some (PyData.eqv (.str a) (.str b)) := rfl
  rw [this]
  congr 1
theorem eq_int {a b : Int} : eqU (.int a) (.int b) μ = some (decide (a = b)) := by
  have : eqU (.int a) (.int b) μ = some (PyData.eqv (.int a) (.int b)) := rfl
  rw [this]
  congr 1
theorem w_addI {i j : Int} {Q : U → Mem → Prop} : wpE (uAdd (.int i) (.int j) μ) Q E = Q (.int (i + j)) μ := propext ⟨fun h => h, fun h => h⟩
theorem w_subI {i j : Int} {Q : U → Mem → Prop} : wpE (uSub (.int i) (.int j) μ) Q E = Q (.int (i - j)) μ := propext ⟨fun h => h, fun h => h⟩
theorem w_mulI {i j : Int} {Q : U → Mem → Prop} : wpE (uMul (.int i) (.int j) μ) Q E = ((big64 i || big64 j) = true ∧ Q (.int (i * j)) μ) := by
  show wpE (if (big64 i || big64 j) = true then _ else _) Q E = _
  split
  · rename_i h; simp [h, wpE]
  · rename_i h; simp [h, wpE]
theorem w_modI {i j : Int} {Q : U → Mem → Prop} : wpE (uMod (.int i) (.int j) μ) Q E = (j ≠ 0 ∧ Q (.int (i.fmod j)) μ) := by
  show wpE (if j ≠ 0 then _ else _) Q E = _
  split
  · rename_i h; simp [h, wpE]
  · rename_i h; simp [h, wpE]
theorem w_fdivI {i j : Int} {Q : U → Mem → Prop} : wpE (uFdiv (.int i) (.int j) μ) Q E = ((j ≠ 0 ∧ j.natAbs < 1073741824) ∧ Q (.int (i.fdiv j)) μ) := by
  show wpE (if j ≠ 0 ∧ j.natAbs < 1073741824 then _ else _) Q E = _
  split
  · rename_i h; simp [h, wpE]
  · rename_i h; simp only [h, wpE]; simp
theorem w_ltI {i j : Int} {Q : U → Mem → Prop} : wpE (uLt (.int i) (.int j) μ) Q E = Q (.bl (decide (i < j))) μ := propext ⟨fun h => h, fun h => h⟩
theorem w_leI {i j : Int} {Q : U → Mem → Prop} : wpE (uLe (.int i) (.int j) μ) Q E = Q (.bl (decide (i ≤ j))) μ := propext ⟨fun h => h, fun h => h⟩
theorem w_gtI {i j : Int} {Q : U → Mem → Prop} : wpE (uGt (.int i) (.int j) μ) Q E = Q (.bl (decide (j < i))) μ := propext ⟨fun h => h, fun h => h⟩
theorem w_geI {i j : Int} {Q : U → Mem → Prop} : wpE (uGe (.int i) (.int j) μ) Q E = Q (.bl (decide (j ≤ i))) μ := propext ⟨fun h => h, fun h => h⟩
/-! items -/
theorem w_ixT {us : List U} {i : Int} {Q : U → Mem → Prop} : wpE (ixU (.tup us) (.int i) μ) Q E = ∃ a, atI us i = some a ∧ Q a μ := w_res
theorem ix_L {r : Nat} {us : List U} {i : Int} (h : μ[r]? = some (.lst us)) : ixU (.ref r) (.int i) μ = opt (atI us i) μ := by
  unfold ixU dctU seqU
  simp only [h]
theorem w_ixL {r : Nat} {us : List U} {i : Int} {Q : U → Mem → Prop} (h : μ[r]? = some (.lst us)) : wpE (ixU (.ref r) (.int i) μ) Q E = ∃ a, atI us i = some a ∧ Q a μ := by rw [ix_L h, w_res]
theorem w_ixD {r : Nat} {kvs : List (Key × U)} {x : Str} {Q : U → Mem → Prop} (h : μ[r]? = some (.dct kvs)) : wpE (ixU (.ref r) (.str x) μ) Q E = ∃ a, valU kvs (.inr x) = some a ∧ Q a μ := by
  have : ixU (.ref r) (.str x) μ = opt (valU kvs (.inr x)) μ := by
    unfold ixU dctU
    simp only [h, keyU]
  rw [this, w_res]
/-! calls -/
theorem w_call {g : List U → Mem → Res U} {a : FA} {Q : U → Mem → Prop} : wpE (fCall g a s μ) Q E = wpE (a s μ) (fun us μ1 => wpE (g us μ1) Q E) E := w_bind
theorem w_def {n : Nat} {g : List U → Mem → Res U} {a : FA} {Q : U → Mem → Prop} : wpE (fDef n g a s μ) Q E = wpE (a s μ) (fun us μ1 => us.length = n ∧ wpE (g us μ1) Q E) E := by
  unfold fDef; rw [w_bind]; congr 1; funext us μ1
  split
  · rename_i h; simp [h]
  · rename_i h; simp [h, wpE]
theorem w_anil {Q : List U → Mem → Prop} : wpE (aNil s μ) Q E = Q [] μ := propext ⟨fun h => h, fun h => h⟩
theorem w_acons {a : FE} {r : FA} {Q : List U → Mem → Prop} : wpE (aCons a r s μ) Q E = wpE (a s μ) (fun u μ1 => wpE (r s μ1) (fun us μ2 => Q (u :: us) μ2) E) E := by
  unfold aCons; rw [w_bind]; congr 1; funext u μ1; rw [w_bind]; rfl
theorem w_tup {a : FA} {Q : U → Mem → Prop} : wpE (fTup a s μ) Q E = wpE (a s μ) (fun us μ1 => us.length ≤ lim ∧ Q (.tup us) μ1) E := by
  unfold fTup; rw [w_bind]; congr 1; funext us μ1
  split
  · rename_i h; simp [h, wpE]
  · rename_i h; simp [h, wpE]
theorem w_lst {a : FA} {Q : U → Mem → Prop} : wpE (fLst a s μ) Q E = wpE (a s μ) (fun us μ1 => us.length ≤ lim ∧ Q (.ref μ1.length) (μ1 ++ [.lst us])) E := by
  unfold fLst; rw [w_bind]; congr 1; funext us μ1
  split
  · rename_i h; simp [h, wpE]
  · rename_i h; simp [h, wpE]
theorem w_int {i : Int} {Q : U → Mem → Prop} : wpE (bInt [.int i] μ) Q E = Q (.int i) μ := propext ⟨fun h => h, fun h => h⟩
theorem w_intB {b : Bool} {Q : U → Mem → Prop} : wpE (bInt [.bl b] μ) Q E = Q (.int (if b then 1 else 0)) μ := propext ⟨fun h => h, fun h => h⟩
theorem w_lenT {us : List U} {Q : U → Mem → Prop} : wpE (bLen [.tup us] μ) Q E = Q (.int us.length) μ := propext ⟨fun h => h, fun h => h⟩
theorem w_lenL {r : Nat} {us : List U} {Q : U → Mem → Prop} (h : μ[r]? = some (.lst us)) : wpE (bLen [.ref r] μ) Q E = Q (.int us.length) μ := by
  have : bLen [.ref r] μ = .ok (.int us.length) μ := by unfold bLen lenU; simp only [h]
  rw [this]; rfl
theorem w_tupleL {r : Nat} {us : List U} {Q : U → Mem → Prop} (h : μ[r]? = some (.lst us)) : wpE (bTuple [.ref r] μ) Q E = Q (.tup us) μ := by
  have : bTuple [.ref r] μ = .ok (.tup us) μ := by unfold bTuple seqU; simp only [h]
  rw [this]; rfl
theorem w_dictD {r : Nat} {kvs : List (Key × U)} {Q : U → Mem → Prop} (h : μ[r]? = some (.dct kvs)) : wpE (bDict [.ref r] μ) Q E = Q (.ref μ.length) (μ ++ [.dct kvs]) := by
  have : bDict [.ref r] μ = .ok (.ref μ.length) (μ ++ [.dct kvs]) := by unfold bDict dctU; simp only [h]
  rw [this]; rfl
theorem w_d0 {Q : U → Mem → Prop} : wpE (fD0 s μ) Q E = Q (.ref μ.length) (μ ++ [.dct []]) := propext ⟨fun h => h, fun h => h⟩
theorem w_app {o : FE} {a : FA} {Q : U → Mem → Prop} {g : U → List U → Mem → Res U} : wpE (fMtL g o a s μ) Q E = wpE (o s μ) (fun u μ1 => ∃ us, lstU μ1 u = some us ∧ wpE (a s μ1) (fun us μ2 => wpE (g u us μ2) Q E) E) E := by
  unfold fMtL; rw [w_bind]; congr 1; funext u μ1
  cases e : lstU μ1 u with
  | none => simp [wpE]
  | some us => simp only [w_bind]; simp
theorem lstU_L {r : Nat} {us : List U} (h : μ[r]? = some (.lst us)) : lstU μ (.ref r) = some us := by unfold lstU; simp only [h]
theorem w_append {r : Nat} {us : List U} {w : U} {Q : U → Mem → Prop} (h : μ[r]? = some (.lst us)) (hl : us.length < lim) : wpE (gAppend (.ref r) [w] μ) Q E = Q .non (μ.set r (.lst (us ++ [w]))) := by
  have : gAppend (.ref r) [w] μ = .ok .non (μ.set r (.lst (us ++ [w]))) := by unfold gAppend; simp only [h, hl, if_true]
  rw [this]; rfl
theorem w_pop {r : Nat} {us : List U} {w : U} {Q : U → Mem → Prop} (h : μ[r]? = some (.lst (us ++ [w]))) : wpE (gPop (.ref r) [] μ) Q E = Q w (μ.set r (.lst us)) := by
  have : gPop (.ref r) [] μ = .ok w (μ.set r (.lst us)) := by
    unfold gPop
    simp only [h]
    simp
  rw [this]; rfl
theorem w_extT {r : Nat} {us ws : List U} {Q : U → Mem → Prop} (h : μ[r]? = some (.lst us)) (hl : us.length + ws.length ≤ lim) : wpE (gExt (.ref r) [.tup ws] μ) Q E = Q .non (μ.set r (.lst (us ++ ws))) := by
  have : gExt (.ref r) [.tup ws] μ = .ok .non (μ.set r (.lst (us ++ ws))) := by unfold gExt seqU; simp only [h, hl, if_true]
  rw [this]; rfl
/-! tests -/
theorem w_tstB {a : FE} {Q : Bool → Mem → Prop} : wpE (tstB a s μ) Q E = wpE (a s μ) (fun u μ1 => ∃ b, u = .bl b ∧ Q b μ1) E := by
  unfold tstB; rw [w_bind]; congr 1; funext u μ1
  cases u <;> simp [wpE]
theorem w_tst {a : FE} {Q : Bool → Mem → Prop} : wpE (tst a s μ) Q E = wpE (a s μ) (fun u μ1 => ∃ b, truU μ1 u = some b ∧ Q b μ1) E := by
  unfold tst; rw [w_bind]; congr 1; funext u μ1
  cases truU μ1 u <;> simp [wpE]
theorem w_nt {t : FT} {Q : Bool → Mem → Prop} : wpE (tNt t s μ) Q E = wpE (t s μ) (fun b μ1 => Q (!b) μ1) E := w_bind
theorem w_an {t u : FT} {Q : Bool → Mem → Prop} : wpE (tAn t u s μ) Q E = wpE (t s μ) (fun b μ1 => if b = true then wpE (u s μ1) Q E else Q false μ1) E := by
  unfold tAn; rw [w_bind]; congr 1; funext b μ1; cases b <;> simp [wpE]
theorem w_or {t u : FT} {Q : Bool → Mem → Prop} : wpE (tOr' t u s μ) Q E = wpE (t s μ) (fun b μ1 => if b = true then Q true μ1 else wpE (u s μ1) Q E) E := by
  unfold tOr'; rw [w_bind]; congr 1; funext b μ1; cases b <;> simp [wpE]
theorem w_all {Q : Bool → Mem → Prop} : wpE (tAll s μ) Q E = Q true μ := propext ⟨fun h => h, fun h => h⟩
theorem w_if {t : FT} {a b : FE} {Q : U → Mem → Prop} : wpE (fIf t a b s μ) Q E = wpE (t s μ) (fun c μ1 => if c = true then wpE (a s μ1) Q E else wpE (b s μ1) Q E) E := by
  unfold fIf; rw [w_bind]; congr 1; funext b μ1; cases b <;> simp
/-! statements -/
theorem w_ofR {r : Res α} {k : α → Mem → Out} : wpS (ofR r s k) D = wpE r (fun a μ => wpS (k a μ) D) (fun c μ => D.ex c s μ) := by cases r <;> rfl
theorem s_seq {a b : FS} : wpS (sSeq a b s μ) D = wpS (a s μ) { D with nx := fun s1 μ1 => wpS (b s1 μ1) D } := by
  unfold sSeq
  cases a s μ <;> rfl
theorem s_next : wpS (sNext s μ) D = D.nx s μ := propext ⟨fun h => h, fun h => h⟩
theorem s_brk : wpS (sBrk s μ) D = D.bk s μ := propext ⟨fun h => h, fun h => h⟩
theorem s_cnt : wpS (sCnt s μ) D = D.ct s μ := propext ⟨fun h => h, fun h => h⟩
theorem s_expr {a : FE} : wpS (sExpr a s μ) D = wpE (a s μ) (fun _ μ1 => D.nx s μ1) (fun c μ => D.ex c s μ) := w_ofR
theorem s_ret {a : FE} : wpS (sRet a s μ) D = wpE (a s μ) (fun u μ1 => D.rt u μ1) (fun c μ => D.ex c s μ) := w_ofR
theorem s_retN : wpS (sRetN s μ) D = D.rt .non μ := propext ⟨fun h => h, fun h => h⟩
theorem s_if {t : FT} {a b : FS} : wpS (sIf t a b s μ) D = wpE (t s μ) (fun c μ1 => if c = true then wpS (a s μ1) D else wpS (b s μ1) D) (fun c μ => D.ex c s μ) := by
  unfold sIf; rw [w_ofR]; congr 1; funext c μ1; cases c <;> simp
theorem s_asg {g : Tgt} {a : FE} : wpS (sAsg g a s μ) D = wpE (a s μ) (fun u μ1 => ∃ s1, setT g u s = some s1 ∧ D.nx s1 μ1) (fun c μ => D.ex c s μ) := by
  unfold sAsg; rw [w_ofR]; congr 1; funext u μ1
  cases setT g u s <;> simp [wpS]
theorem s_asg1 {i : Nat} {a : FE} : wpS (sAsg (.one i) a s μ) D = wpE (a s μ) (fun u μ1 => D.nx (s.set i (some u)) μ1) (fun c μ => D.ex c s μ) := by
  rw [s_asg]; congr 1; funext u μ1; simp [setT]
theorem s_store {o i a : FE} : wpS (sStore o i a s μ) D = wpE (a s μ) (fun u μ1 => wpE (o s μ1) (fun x μ2 => wpE (i s μ2) (fun y μ3 => ∃ μ4, stU x y u μ3 = some μ4 ∧ D.nx s μ4) (fun c μ => D.ex c s μ)) (fun c μ => D.ex c s μ)) (fun c μ => D.ex c s μ) := by
  unfold sStore; rw [w_ofR]; congr 1; funext u μ1; rw [w_ofR]; congr 1; funext x μ2; rw [w_ofR]; congr 1; funext y μ3
  cases stU x y u μ3 <;> simp [wpS]
theorem stU_D {r : Nat} {kvs : List (Key × U)} {x : Str} {u : U} (h : μ[r]? = some (.dct kvs)) (hl : kvs.length < lim) : stU (.ref r) (.str x) u μ = some (μ.set r (.dct (putU kvs (.inr x) u))) := by
  unfold stU; simp only [h, keyU, hl, if_true]
theorem stU_L {r j : Nat} {us : List U} {i : Int} {u : U} (h : μ[r]? = some (.lst us)) (hj : ixN us.length i = some j) : stU (.ref r) (.int i) u μ = some (μ.set r (.lst (us.set j u))) := by
  unfold stU; simp only [h, hj]
/-- a def's run -/
theorem w_run {n : Nat} {body : FS} {us : List U} {Q : U → Mem → Prop} : wpE (runDef n body us μ) Q E = wpS (body (us.map some ++ List.replicate (n - us.length) none) μ) ⟨fun _ μ' => Q .non μ', Q, fun _ _ => False, fun _ _ => False, fun c _ μ' => E c μ'⟩ := by
  unfold runDef
  cases body (us.map some ++ List.replicate (n - us.length) none) μ <;> rfl

/-! ### loops -/
theorem w_for {it : FI} {g : Tgt} {b : FS} : wpS (sFor it g b s μ) D = wpE (it s μ) (fun j μ1 => wpS (sForGo g b fuelF j 0 s μ1) D) (fun c μ => D.ex c s μ) := w_ofR
/-- a for by what holds at each turn -/
theorem for_by {j : IterU} {g : Tgt} {b : FS} (I : Nat → Slots → Mem → Prop) (n : Nat) (hb : ∀ i s μ, I i s μ → i ≤ n)
    (step : ∀ i s μ, I i s μ → (itemAt j i μ = some none ∧ D.nx s μ) ∨ ∃ u s1, itemAt j i μ = some (some u) ∧ setT g u s = some s1 ∧ wpS (b s1 μ) ⟨I (i + 1), D.rt, D.nx, I (i + 1), D.ex⟩) :
    ∀ (f i : Nat) (s : Slots) (μ : Mem), n < f + i → I i s μ → wpS (sForGo g b f j i s μ) D
  | 0, i, s, μ, hf, h => by
    have := hb i s μ h
    omega
  | f + 1, i, s, μ, hf, h => by
    rcases step i s μ h with ⟨e, q⟩ | ⟨u, s1, e, e2, q⟩
    · simp only [sForGo, e]; exact q
    · simp only [sForGo, e, e2]
      cases eb : b s1 μ with
      | nx s2 μ2 => rw [eb] at q; exact for_by I n hb step f (i + 1) s2 μ2 (by omega) q
      | ct s2 μ2 => rw [eb] at q; exact for_by I n hb step f (i + 1) s2 μ2 (by omega) q
      | bk s2 μ2 => rw [eb] at q; exact q
      | rt u m2 => rw [eb] at q; exact q
      | ex c2 u m2 => rw [eb] at q; exact q
      | bad => rw [eb] at q; exact q
theorem for_go {j : IterU} {g : Tgt} {b : FS} (I : Nat → Slots → Mem → Prop) (n : Nat) (hn : n < 1000000) (h0 : I 0 s μ) (hb : ∀ i s μ, I i s μ → i ≤ n)
    (step : ∀ i s μ, I i s μ → (itemAt j i μ = some none ∧ D.nx s μ) ∨ ∃ u s1, itemAt j i μ = some (some u) ∧ setT g u s = some s1 ∧ wpS (b s1 μ) ⟨I (i + 1), D.rt, D.nx, I (i + 1), D.ex⟩) : wpS (sForGo g b fuelF j 0 s μ) D :=
  for_by I n hb step fuelF 0 s μ (by unfold fuelF; omega) h0
/-- a while by a measure -/
theorem while_by' {t : FT} {b : FS} (I : Nat → Slots → Mem → Prop)
    (step : ∀ m s μ, I m s μ → wpE (t s μ) (fun c μ1 => if c = true then ∃ m', m = m' + 1 ∧ wpS (b s μ1) ⟨I m', D.rt, D.nx, I m', D.ex⟩ else D.nx s μ1) (fun c μ => D.ex c s μ)) :
    ∀ (f m : Nat) (s : Slots) (μ : Mem), m < f → I m s μ → wpS (sWhile t b f s μ) D
  | 0, m, s, μ, hf, h => by omega
  | f + 1, m, s, μ, hf, h => by
    have q := step m s μ h
    simp only [sWhile, w_ofR]
    refine wpE.mono q fun c μ1 hc => ?_
    cases c with
    | false => simpa [wpS] using hc
    | true =>
      simp only [if_true] at hc
      obtain ⟨m', rfl, q2⟩ := hc
      cases eb : b s μ1 with
      | nx s2 μ2 => rw [eb] at q2; exact while_by' I step f m' s2 μ2 (by omega) q2
      | ct s2 μ2 => rw [eb] at q2; exact while_by' I step f m' s2 μ2 (by omega) q2
      | bk s2 μ2 => rw [eb] at q2; exact q2
      | rt u m2 => rw [eb] at q2; exact q2
      | ex c2 u m2 => rw [eb] at q2; exact q2
      | bad => rw [eb] at q2; exact q2
theorem while_go {t : FT} {b : FS} (I : Nat → Slots → Mem → Prop) {m : Nat} (hm : m < 1000000) (h0 : I m s μ)
    (step : ∀ m s μ, I m s μ → wpE (t s μ) (fun c μ1 => if c = true then ∃ m', m = m' + 1 ∧ wpS (b s μ1) ⟨I m', D.rt, D.nx, I m', D.ex⟩ else D.nx s μ1) (fun c μ => D.ex c s μ)) : wpS (sWhile t b fuelF s μ) D :=
  while_by' I step fuelF m s μ (by unfold fuelF; omega) h0
/-- a comprehension by what holds at each turn -/
theorem w_lc {it : FI} {own : List Nat} {g : Tgt} {t : FT} {e : FE} {Q : U → Mem → Prop} : wpE (fLc it own g t e s μ) Q E = wpE (it s μ) (fun j μ1 => wpE (lcGo j own g t e s μ1.length fuelF 0 (μ1 ++ [.lst []])) Q E) E := w_bind
theorem lc_by {j : IterU} {own : List Nat} {g : Tgt} {t : FT} {e : FE} {d : Nat} {Q : U → Mem → Prop} (I : Nat → Mem → Prop) (n : Nat) (hb : ∀ i μ, I i μ → i ≤ n)
    (step : ∀ i μ, I i μ → (itemAt j i μ = some none ∧ Q (.ref d) μ) ∨ ∃ u s1, itemAt j i μ = some (some u) ∧ setT g u (wipeU s own) = some s1 ∧
      wpE (t s1 μ) (fun b μ3 => if b = true then wpE (e s1 μ3) (fun v μ4 => ∃ acc, μ4[d]? = some (.lst acc) ∧ acc.length < lim ∧ I (i + 1) (μ4.set d (.lst (acc ++ [v])))) (fun _ _ => False) else I (i + 1) μ3) (fun _ _ => False)) :
    ∀ (f i : Nat) (μ : Mem), n < f + i → I i μ → wpE (lcGo j own g t e s d f i μ) Q E
  | 0, i, μ, hf, h => by
    have := hb i μ h
    omega
  | f + 1, i, μ, hf, h => by
    rcases step i μ h with ⟨e0, q⟩ | ⟨u, s1, e0, e2, q⟩
    · simp only [lcGo, e0]; exact q
    · simp only [lcGo, e0, e2]
      cases et : t s1 μ with
      | ex c m => rw [et] at q; exact q.elim
      | bad => rw [et] at q; exact q.elim
      | ok b μ3 =>
        rw [et] at q
        cases b with
        | false => exact lc_by I n hb step f (i + 1) μ3 (by omega) q
        | true =>
          have q' : wpE (e s1 μ3) (fun v μ4 => ∃ acc, μ4[d]? = some (.lst acc) ∧ acc.length < lim ∧ I (i + 1) (μ4.set d (.lst (acc ++ [v])))) (fun _ _ => False) := q
          cases ee : e s1 μ3 with
          | ex c m => rw [ee] at q'; exact q'.elim
          | bad => rw [ee] at q'; exact q'.elim
          | ok v μ4 =>
            rw [ee] at q'
            obtain ⟨acc, a1, a2, a3⟩ := q'
            simp only [ee, a1, a2, if_true]
            exact lc_by I n hb step f (i + 1) _ (by omega) a3
theorem lc_go {j : IterU} {own : List Nat} {g : Tgt} {t : FT} {e : FE} {d : Nat} {Q : U → Mem → Prop} (I : Nat → Mem → Prop) (n : Nat) (hn : n < 1000000) (h0 : I 0 μ) (hb : ∀ i μ, I i μ → i ≤ n)
    (step : ∀ i μ, I i μ → (itemAt j i μ = some none ∧ Q (.ref d) μ) ∨ ∃ u s1, itemAt j i μ = some (some u) ∧ setT g u (wipeU s own) = some s1 ∧
      wpE (t s1 μ) (fun b μ3 => if b = true then wpE (e s1 μ3) (fun v μ4 => ∃ acc, μ4[d]? = some (.lst acc) ∧ acc.length < lim ∧ I (i + 1) (μ4.set d (.lst (acc ++ [v])))) (fun _ _ => False) else I (i + 1) μ3) (fun _ _ => False)) :
    wpE (lcGo j own g t e s d fuelF 0 μ) Q E := lc_by I n hb step fuelF 0 μ (by unfold fuelF; omega) h0
/-! what is walked -/
theorem w_iseqT {a : FE} {Q : IterU → Mem → Prop} : wpE (iSeq a s μ) Q E = wpE (a s μ) (fun u μ1 => match u with
  | .tup us => Q (.seq us) μ1
  | .frl us => Q (.seq us) μ1
  | .str z => Q (.seq (signsU z)) μ1
  | .ref r => ∃ us, listAt μ1 r = some us ∧ Q (.live r) μ1
  | _ => False) E := by
  unfold iSeq; rw [w_bind]; congr 1; funext u μ1
  cases u with
  | ref r =>
    simp only
    cases listAt μ1 r <;> simp [wpE]
  | _ => rfl
theorem w_rg1 {a : FE} {Q : IterU → Mem → Prop} : wpE (iRg1 a s μ) Q E = wpE (a s μ) (fun u μ1 => ∃ n, u = .int n ∧ okR n = true ∧ Q (.rng 0 1 n.toNat) μ1) E := by
  unfold iRg1; rw [w_bind]; congr 1; funext u μ1
  cases u with
  | int n =>
    simp only
    split
    · rename_i h; simp [h, wpE]
    · rename_i h; simp [h, wpE]
  | _ => simp [wpE]
theorem w_rev1 {a : FE} {Q : IterU → Mem → Prop} : wpE (iRev1 a s μ) Q E = wpE (a s μ) (fun u μ1 => ∃ n, u = .int n ∧ okR n = true ∧ Q (.rng (n.toNat - 1) (-1) n.toNat) μ1) E := by
  unfold iRev1; rw [w_bind]; congr 1; funext u μ1
  cases u with
  | int n =>
    simp only
    split
    · rename_i h; simp [h, wpE]
    · rename_i h; simp [h, wpE]
  | _ => simp [wpE]
theorem listAt_L {r : Nat} {us : List U} (h : μ[r]? = some (.lst us)) : listAt μ r = some us := by unfold listAt; simp only [h]
theorem item_live {r i : Nat} {us : List U} (h : μ[r]? = some (.lst us)) : itemAt (.live r) i μ = some us[i]? := by
  simp only [itemAt, listAt_L h]; rfl
theorem item_rng {lo c : Int} {n i : Nat} : itemAt (.rng lo c n) i μ = some (if i < n then some (.int (lo + (i : Int) * c)) else none) := rfl
theorem item_seq {us : List U} {i : Nat} : itemAt (.seq us) i μ = some us[i]? := rfl
end
/-! ### places -/
theorem atI_nat {α : Type} {xs : List α} (n : Nat) : atI xs (n : Int) = xs[n]? := by
  unfold L2.atI L2.ixN
  rw [if_pos (by omega)]
  by_cases h : n < xs.length
  · rw [if_pos (by omega)]
    simp
  · rw [if_neg (by omega)]
    simp
    omega
theorem atI_0 {α : Type} {x : α} {xs : List α} : atI (x :: xs) 0 = some x := atI_nat (xs := x :: xs) 0
theorem atI_1 {α : Type} {x y : α} {xs : List α} : atI (x :: y :: xs) 1 = some y := atI_nat (xs := x :: y :: xs) 1
theorem atI_2 {α : Type} {x y z : α} {xs : List α} : atI (x :: y :: z :: xs) 2 = some z := atI_nat (xs := x :: y :: z :: xs) 2
theorem atI_3 {α : Type} {x y z a : α} {xs : List α} : atI (x :: y :: z :: a :: xs) 3 = some a := atI_nat (xs := x :: y :: z :: a :: xs) 3
theorem atI_4 {α : Type} {x y z a b : α} {xs : List α} : atI (x :: y :: z :: a :: b :: xs) 4 = some b := atI_nat (xs := x :: y :: z :: a :: b :: xs) 4
theorem atI_5 {α : Type} {x y z a b c : α} {xs : List α} : atI (x :: y :: z :: a :: b :: c :: xs) 5 = some c := atI_nat (xs := x :: y :: z :: a :: b :: c :: xs) 5
theorem atI_in {α : Type} {xs : List α} {i : Int} (h0 : 0 ≤ i) (h1 : i < xs.length) : ∃ a, atI xs i = some a ∧ a ∈ xs := by
  obtain ⟨j, rfl⟩ := Int.eq_ofNat_of_zero_le h0
  have hl : j < xs.length := by omega
  exact ⟨xs[j], (atI_nat j).trans (List.getElem?_eq_getElem hl), List.getElem_mem _⟩
theorem fmod_in {x m : Int} (h : 0 < m) : 0 ≤ x.fmod m ∧ x.fmod m < m := by
  rw [Int.fmod_eq_emod_of_nonneg _ (by omega)]
  exact ⟨Int.emod_nonneg _ (by omega), Int.emod_lt_of_pos _ h⟩
/-! ### memories that grow -/
/-- all but the cell s stays -/
structure Gr (s : Nat) (μ μ' : Mem) : Prop where
  le : μ.length ≤ μ'.length
  at_ : ∀ i, i < μ.length → i ≠ s → μ'[i]? = μ[i]?
theorem Gr.refl {s : Nat} {μ : Mem} : Gr s μ μ := ⟨Nat.le_refl _, fun _ _ _ => rfl⟩
theorem Gr.trans {s : Nat} {a b c : Mem} (h : Gr s a b) (g : Gr s b c) : Gr s a c := ⟨Nat.le_trans h.le g.le, fun i hi hs => (g.at_ i (Nat.lt_of_lt_of_le hi h.le) hs).trans (h.at_ i hi hs)⟩
theorem Gr.get {s i : Nat} {μ μ' : Mem} {c : Cell} (g : Gr s μ μ') (h : μ[i]? = some c) (hs : i ≠ s) : μ'[i]? = some c := (g.at_ i (List.getElem?_eq_some_iff.mp h).1 hs).trans h
theorem Gr.snoc {s : Nat} {μ : Mem} {c : Cell} : Gr s μ (μ ++ [c]) := ⟨by simp, fun i hi _ => List.getElem?_append_left hi⟩
theorem Gr.set {s : Nat} {μ : Mem} {c : Cell} : Gr s μ (μ.set s c) := ⟨by simp, fun i _ hs => List.getElem?_set_ne (Ne.symm hs)⟩
/-- a cell of the new part changes -/
theorem Gr.put {s i : Nat} {μ μ' : Mem} {c : Cell} (g : Gr s μ μ') (h : μ.length ≤ i) : Gr s μ (μ'.set i c) := ⟨by simpa using g.le, fun j hj hs => by
  rw [List.getElem?_set_ne (by omega)]; exact g.at_ j hj hs⟩
theorem get_snoc {μ : Mem} {c : Cell} : (μ ++ [c])[μ.length]? = some c := by simp
theorem get_set {μ : Mem} {i : Nat} {c d : Cell} (h : μ[i]? = some d) : (μ.set i c)[i]? = some c := List.getElem?_set_self (List.getElem?_eq_some_iff.mp h).1
theorem get_set_ne {μ : Mem} {i j : Nat} {c d : Cell} (h : μ[j]? = some d) (ne : i ≠ j) : (μ.set i c)[j]? = some d := (List.getElem?_set_ne ne).trans h
theorem get_snoc_lt {μ : Mem} {i : Nat} {c d : Cell} (h : μ[i]? = some d) : (μ ++ [c])[i]? = some d := (List.getElem?_append_left (List.getElem?_eq_some_iff.mp h).1).trans h
theorem get_lt {μ : Mem} {i : Nat} {d : Cell} (h : μ[i]? = some d) : i < μ.length := (List.getElem?_eq_some_iff.mp h).1
end Dg
/-! Dg9: raise of an own exception, texts with places, try with one clause without a name. -/
namespace Dg
open PySem PySem.Spec PyProof.Rows L2 RZ
section
variable {X : Cx} {W : WX} {k : Nat}
/-! ### raise C(e) -/
def sRaise (c : Str) (m : FE) : FS := fun s μ => ofR (m s μ) s fun _ μ1 => .ex c s μ1
theorem cs_raise {C : Addr} {bmB : List Value} {B newId initId : String} {x : Str} {e : Expr} {me : FE} {p pos pos' : Pos} (G : Good X W k) (F : ExcBaseFacts B newId initId bmB) (q : PySem.W.excIn X.K C bmB newId = true) (gC : X.mg x = some (.ref C))
    (kC : PySem.W.keepIn X.K (.ref C) = true) (r : Raises X (.ref C)) (hg : Gl X x) (he : CE X W e me) (hst : starEach [e] X.env = (false, eval e X.env) :: starEach [] X.env := by rfl) (hdb : (x == ("__debug__" : Str)) = false := by decide) :
    CS X W (.Raise (some (.Call (.Name x p) [e] [] pos)) none pos') (sRaise x me) := by
  intro ρ μ s σ H D hs hm h
  refine ⟨_, ps_raise G.calm G.tk (SkE.pmk_own1 F q gC kC r hg pe_w hst hdb), ?_⟩
  exact he ρ μ s σ H _ hs hm (PostS.bind hs h fun u μ1 x1 H1 ρ1 t1 r1 h1 => h1 (.ref C) σ H1 ρ1 (Stp.refl t1.mem) (t1.s hs) gC)
/-! ### f'..{e}..' -/
def fFmt (a : FE) : FE := fun s μ => (a s μ).bind fun u μ1 => match u with
  | .str y => if y.length ≤ lim then .ok (.str y) μ1 else .bad
  | .int i => if i.natAbs.log2 < 1920 ∧ PyData.strOk (toString i : Str) = true then .ok (.str (toString i)) μ1 else .bad
  | _ => .bad
theorem ce_fmt {e : Expr} {me : FE} {pos : Pos} (he : CE X W e me) : CE X W (.FormattedValue e (-1) none pos) (fFmt me) := by
  intro ρ μ s σ H Q hs hm h
  refine ⟨_, pe_fmt pe_w, ?_⟩
  refine he ρ μ s σ H _ hs hm (h.bind fun u μ1 x H1 ρ1 t1 r1 h1 => ?_)
  cases u with
  | str y =>
    cases r1 with
    | str ok =>
      simp only at h1
      split at h1
      · rename_i hl
        exact .inl ⟨y, rfl, lim_le hl, h1.ok (Stp.refl t1.mem) (.str ok)⟩
      · exact h1.elim
  | int i =>
    cases r1
    simp only at h1
    split at h1
    · rename_i hl
      exact .inr ⟨i, rfl, hl.1, h1.ok (Stp.refl t1.mem) (.str hl.2)⟩
    · exact h1.elim
  | _ => exact h1.elim
def fJs : List FE → Str → FE
  | [], acc => fun _ μ => .ok (.str acc) μ
  | p :: ps, acc => fun s μ => (p s μ).bind fun u μ1 => match u with
    | .str y => if (acc ++ y).length ≤ lim then fJs ps (acc ++ y) s μ1 else .bad
    | _ => .bad
inductive CJ (X : Cx) (W : WX) : List Expr → List FE → Prop
  | nil : CJ X W [] []
  | cons {e : Expr} {m : FE} {es : List Expr} {ms : List FE} (h : CE X W e m) (r : CJ X W es ms) : CJ X W (e :: es) (m :: ms)
theorem pj_all : ∀ es : List Expr, PJ X es (es.map (WE X))
  | [] => .nil
  | _ :: es => .cons pe_w (pj_all es)
theorem tjs_of {es : List Expr} {ms : List FE} (h : CJ X W es ms) : ∀ (acc : Str) (ρ : List Addr) (μ : Mem) (s : Slots) (σ : L2.St) (H : Hp) (Q : Str → Hp → Prop), PyData.strOk acc = true → RepS X.K H ρ s σ → RepM X.K H ρ μ →
    Post X W σ relV ρ H (fJs ms acc s μ) (fun v H1 => ∃ y, v = .str y ∧ Q y H1) → tJs (es.map (WE X)) acc σ H Q := by
  induction h with
  | nil =>
    intro acc ρ μ s σ H Q ok hs hm h
    obtain ⟨y, e, q⟩ := h.ok (Stp.refl hm) (.str ok)
    cases e
    exact q
  | @cons e m es ms he r ih =>
    intro acc ρ μ s σ H Q ok hs hm h
    refine he ρ μ s σ H _ hs hm (h.bind fun u μ1 x H1 ρ1 t1 r1 h1 => ?_)
    cases u with
    | str y =>
      cases r1 with
      | str oy =>
        simp only at h1
        split at h1
        · rename_i hl
          exact ⟨y, rfl, lim_le hl, ih (acc ++ y) ρ1 μ1 s σ H1 Q (strOk_append ok oy) (t1.s hs) t1.mem h1⟩
        · exact h1.elim
    | _ => exact h1.elim
theorem fJs_str : ∀ {ms : List FE} {acc : Str} {s : Slots} {μ m : Mem} {u : U}, fJs ms acc s μ = .ok u m → ∃ y, u = .str y
  | [], acc, s, μ, m, u, h => by cases h; exact ⟨acc, rfl⟩
  | p :: ps, acc, s, μ, m, u, h => by
    unfold fJs at h
    cases e : p s μ with
    | ok w m1 =>
      rw [e] at h
      simp only [Res.bind] at h
      split at h
      · split at h
        · exact fJs_str h
        · cases h
      · cases h
    | ex c m1 => rw [e] at h; cases h
    | bad => rw [e] at h; cases h
theorem ce_joined {e1 e2 : Expr} {es : List Expr} {ms : List FE} {pos : Pos} (h : CJ X W (e1 :: e2 :: es) ms) : CE X W (.JoinedStr (e1 :: e2 :: es) pos) (fJs ms Str.empty) := by
  intro ρ μ s σ H Q hs hm q
  refine ⟨_, pe_joined (pj_all _), ?_⟩
  refine tjs_of h Str.empty ρ μ s σ H _ (by decide +kernel) hs hm ?_
  cases z : fJs ms Str.empty s μ with
  | ok u m =>
    rw [z] at q
    obtain ⟨y, rfl⟩ := fJs_str z
    intro v H' ρ' t r
    have r' := r
    cases r' with
    | str _ => exact ⟨y, rfl, q _ H' ρ' t r⟩
  | ex c m => rw [z] at q; exact q
  | bad => rw [z] at q; exact q
theorem ce_joined1 {e : Expr} {me : FE} {pos : Pos} (he : CE X W e me) : CE X W (.JoinedStr [e] pos) me := by
  intro ρ μ s σ H Q hs hm q
  exact ⟨_, pe_joined1 pe_w, he ρ μ s σ H Q hs hm q⟩
/-! ### try .. except C -/
def sTry (tab : List (Str × Bool)) (body suite : FS) : FS := fun s μ => match body s μ with
  | .ex c s1 μ1 => match tab.lookup c with
    | some true => suite s1 μ1
    | some false => .ex c s1 μ1
    | none => .bad
  | o => o
theorem cs_try {x : Str} {c : Value} {body suite : List Stmt} {b₀ : Stmt} {np pos pos' : Pos} {tab : List (Str × Bool)} {mb ms : FS} (hst : X.stack = X.env :: X.outer) (hfr : X.env.frame = some X.env.locals) (hc : Names X x c) (G : Good X W k)
    (htab : ∀ (n : Str) (b : Bool) (cls : Value), tab.lookup n = some b → X.mg n = some cls → PySem.W.exmOne X.K cls c = some b)
    (hb : ∀ (W' : WX) (pn : List (Addr × Obj)) (xe : Value → Shared → Prop), Takes (X.tr pn xe) W' → PassesOwn (model X.prog X.w) X.A X.env xe → CSs (X.tr pn xe) W' body mb)
    (hsu : ∀ (a : Addr) (oe : Obj) (cls : Value) (d : Option Addr) (pn : List (Addr × Obj)), Zc cls d oe → (∃ vs, oe.data = .fields vs) → CSs (X.suite a ((a, oe) :: pn)) W (b₀ :: suite) ms) :
    CS X W (.Try body [.ExceptHandler (some (.Name x np)) none (b₀ :: suite) pos'] [] [] pos) (sTry tab mb ms) := by
  intro ρ μ s σ H D hs hm h
  refine ⟨_, ps_try_only hst hfr hc (Wout := W) (tb := fun W' D σ H => ∀ pn xe, Takes (X.tr pn xe) W' → PassesOwn (model X.prog X.w) X.A X.env xe → WSs (X.tr pn xe) body D σ H)
    (ts := fun a cls d D σ H => ∀ oe pn, Zc cls d oe → (∃ vs, oe.data = .fields vs) → WSs (X.suite a ((a, oe) :: pn)) (b₀ :: suite) D σ H) G.tk
    (fun W' pn xe tk' po => ⟨fun pins s σ H D I h => pss_w.run pins s σ H D I (h pn xe tk' po)⟩) (fun a oe cls d pn hz hf => ⟨fun pins s σ H D I h => pss_w.run pins s σ H D I (h oe pn hz hf)⟩), ?_⟩
  intro pn xe tk' po
  refine hb _ pn xe tk' po ρ μ s σ H D hs hm ?_
  unfold sTry at h
  cases e : mb s μ with
  | nx s1 m1 => rw [e] at h; exact h
  | rt u m1 => rw [e] at h; exact h
  | bk s1 m1 => rw [e] at h; exact h
  | ct s1 m1 => rw [e] at h; exact h
  | bad => rw [e] at h; exact h
  | ex c' s1 m1 =>
    rw [e] at h
    simp only at h
    intro cls σ' H' ρ' t r em
    cases hl : tab.lookup c' with
    | none => rw [hl] at h; exact h.elim
    | some b =>
      rw [hl] at h
      refine ⟨b, htab c' b cls hl em, ?_, ?_⟩
      · rintro rfl a ha oe pn2 hz hf
        exact hsu a oe cls none pn2 hz hf ρ' m1 s1 σ' H' D r t.mem (PostS.from t h)
      · rintro rfl
        exact h cls σ' H' ρ' t r em
/-! ### own exceptions, by facts of the head -/
def Exn (K : PySem.W.Frag) (mg : Str → Option Value) (x : Str) : Prop := ∃ C : Addr, mg x = some (.ref C) ∧ PySem.W.excIn K C He.veBase "ValueError.__new__" = true ∧ PySem.W.keepIn K (.ref C) = true ∧
  PySem.W.subIn K (.ref C) (.type "BaseException") = some true ∧ PySem.W.typeIn K (.ref C) = some (.type "type")
theorem exn_ok {K : PySem.W.Frag} {h : Heap} {mg : Str → Option Value} (KX : K.In h) (N : h.Ns mainGlobals mg) {x : Str} (c1 : (He.Fa.glo x).ok K = true) (c2 : (He.Fa.exc x).ok K = true) : Exn K mg x :=
  ⟨He.ga K x, He.glo_ok KX N c1, He.exc_ok c2⟩
theorem cs_raiseN {x : Str} {e : Expr} {me : FE} {p pos pos' : Pos} (G : Good X W k) (h : Exn X.K X.mg x) (hg : Gl X x) (he : CE X W e me) (hst : starEach [e] X.env = (false, eval e X.env) :: starEach [] X.env := by rfl)
    (hdb : (x == ("__debug__" : Str)) = false := by decide) : CS X W (.Raise (some (.Call (.Name x p) [e] [] pos)) none pos') (sRaise x me) := by
  obtain ⟨C, h1, h2, h3, h4, h5⟩ := h
  exact cs_raise G PySem.F.excBase_ValueError h2 h1 h3 (raises_own h4 h5) hg he hst hdb
def Exm (K : PySem.W.Frag) (mg : Str → Option Value) (x y : Str) (b : Bool) : Prop := ∃ Cx Cy : Addr, mg x = some (.ref Cx) ∧ mg y = some (.ref Cy) ∧ PySem.W.exmOne K (.ref Cx) (.ref Cy) = some b
theorem exmF_ok {K : PySem.W.Frag} {h : Heap} {mg : Str → Option Value} (KX : K.In h) (N : h.Ns mainGlobals mg) {x y : Str} {b : Bool} (c1 : (He.Fa.glo x).ok K = true) (c2 : (He.Fa.glo y).ok K = true) (c3 : (He.Fa.exm x y b).ok K = true) : Exm K mg x y b :=
  ⟨He.ga K x, He.ga K y, He.glo_ok KX N c1, He.glo_ok KX N c2, He.exm_ok c3⟩
theorem Good.tr (G : Good X W k) {W' : WX} {pn : List (Addr × Obj)} {xe : Value → Shared → Prop} (tk : Takes (X.tr pn xe) W') (po : PassesOwn (model X.prog X.w) X.A X.env xe) : Good (X.tr pn xe) W' k := ⟨G.calm, G.room, tk, po⟩
theorem lookup_mem {α : Type} {n : Str} {b : α} : ∀ {l : List (Str × α)}, l.lookup n = some b → (n, b) ∈ l
  | [], h => by cases h
  | p :: r, h => by
    rw [List.lookup_cons] at h
    split at h
    · rename_i e
      cases h
      have e2 := beq_iff_eq.mp e
      subst e2
      exact List.mem_cons_self
    · exact List.mem_cons_of_mem _ (lookup_mem h)
theorem cs_tryN {x : Str} {body suite : List Stmt} {b₀ : Stmt} {np pos pos' : Pos} {tab : List (Str × Bool)} {mb ms : FS} (G : Good X W k) (hx : Exn X.K X.mg x) (hg : Gl X x) (htab : ∀ q ∈ tab, Exm X.K X.mg q.1 x q.2)
    (hb : ∀ (W' : WX) (pn : List (Addr × Obj)) (xe : Value → Shared → Prop), Good (X.tr pn xe) W' k → CSs (X.tr pn xe) W' body mb)
    (hsu : ∀ (a : Addr) (oe : Obj) (cls : Value) (d : Option Addr) (pn : List (Addr × Obj)), Zc cls d oe → (∃ vs, oe.data = .fields vs) → CSs (X.suite a ((a, oe) :: pn)) W (b₀ :: suite) ms)
    (hst : X.stack = X.env :: X.outer := by rfl) (hfr : X.env.frame = some X.env.locals := by rfl) (hdb : (x == ("__debug__" : Str)) = false := by decide) :
    CS X W (.Try body [.ExceptHandler (some (.Name x np)) none (b₀ :: suite) pos'] [] [] pos) (sTry tab mb ms) := by
  obtain ⟨C, h1, _⟩ := hx
  refine cs_try hst hfr (c := .ref C) ⟨hg, hdb, .inl h1⟩ G (fun n b cls hl hm => ?_) (fun W' pn xe tk po => hb W' pn xe (G.tr tk po)) hsu
  obtain ⟨Cx, Cy, e1, e2, e3⟩ := htab (n, b) (lookup_mem hl)
  simp only at e1 e2 e3
  rw [hm] at e1
  cases e1
  rw [h1] at e2
  cases e2
  exact e3
theorem exm_cons {K : PySem.W.Frag} {mg : Str → Option Value} {x y : Str} {b : Bool} {l : List (Str × Bool)} (h : Exm K mg x y b) (r : ∀ q ∈ l, Exm K mg q.1 y q.2) : ∀ q ∈ ((x, b) :: l), Exm K mg q.1 y q.2 := by
  intro q hq
  rcases List.mem_cons.mp hq with rfl | hq
  · exact h
  · exact r q hq
end
end Dg
/-! Dg10: {k: v, ..}. -/
namespace Dg
open PySem PySem.Spec PyProof.Rows L2 RZ
def mergeU (kus more : List (Key × U)) : List (Key × U) := more.foldl (fun acc kv => putU acc kv.1 kv.2) kus
theorem RepKV.merge {K : PySem.W.Frag} {H : Hp} {ρ : List Addr} : ∀ {more : List (Key × U)} {mv : List (Key × V)} {kus : List (Key × U)} {kvs : List (Key × V)}, RepKV K H ρ more mv → RepKV K H ρ kus kvs → RepKV K H ρ (mergeU kus more) (mergeK kvs mv)
  | [], mv, kus, kvs, h, g => by
    have := h.unnil
    subst this
    exact g
  | (k, u) :: more, mv, kus, kvs, h, g => by
    obtain ⟨v, mv', e, r, h'⟩ := h.uncons
    subst e
    show RepKV K H ρ (mergeU (putU kus k u) more) (mergeK (putK kvs k v) mv')
    exact RepKV.merge h' (RepKV.put r g)
def fPairs : List (FE × FE) → Slots → Mem → Res (List (Key × U))
  | [], _, μ => .ok [] μ
  | (k, v) :: r, s, μ => (k s μ).bind fun ku μ1 => (v s μ1).bind fun u μ2 => match keyU ku with
    | some key => (fPairs r s μ2).bind fun kus μ3 => .ok ((key, u) :: kus) μ3
    | none => .bad
def relKV : RelT (List (Key × U)) (List (Key × V)) := fun K H ρ a b => RepKV K H ρ a b
def fDisp (ms : List (FE × FE)) : FE := fun s μ => (fPairs ms s (μ ++ [.dct []])).bind fun kus μ1 => match μ1[μ.length]? with
  | some (.dct []) => if kus.length ≤ 15 then .ok (.ref μ.length) (μ1.set μ.length (.dct (mergeU [] kus))) else .bad
  | _ => .bad
theorem Post.from' {α β : Type} {X : Cx} {W : WX} {σ : L2.St} {rel : RelT α β} {ρ ρ1 : List Addr} {H H1 : Hp} {μ1 : Mem} {r : Res α} {Q : β → Hp → Prop} (t : Stp X.K ρ H ρ1 H1 μ1) (h : Post X W σ rel ρ H r Q) : Post X W σ rel ρ1 H1 r Q := by
  cases r with
  | ok a m => exact fun v H' ρ' t' r => h v H' ρ' (t.trans t') r
  | ex c m => exact fun cls H' ρ' t' e => h cls H' ρ' (t.trans t') e
  | bad => exact h
section
variable {X : Cx} {W : WX} {k : Nat}
inductive CP (X : Cx) (W : WX) : List (Option Expr) → List Expr → List (FE × FE) → Prop
  | nil : CP X W [] [] []
  | cons {k v : Expr} {mk mv : FE} {ks : List (Option Expr)} {vs : List Expr} {ms : List (FE × FE)} (hk : CE X W k mk) (hv : CE X W v mv) (r : CP X W ks vs ms) : CP X W (some k :: ks) (v :: vs) ((mk, mv) :: ms)
theorem CP.pairs {pos : Pos} {ks : List (Option Expr)} {vs : List Expr} {ms : List (FE × FE)} (c : CP X W ks vs ms) : ∃ trs : List (TE × TE), PPs X pos ks vs trs ∧ ∀ (ρ : List Addr) (μ : Mem) (s : Slots) (σ : L2.St) (H : Hp) (Q : List (V × V) → Hp → Prop), RepS X.K H ρ s σ → RepM X.K H ρ μ →
    Post X W σ relKV ρ H (fPairs ms s μ) (fun kvs H3 => Q (kvs.map fun kv => (kV kv.1, kv.2)) H3) → tPairs trs σ H Q := by
  induction c with
  | nil => exact ⟨[], pps_nil, fun ρ μ s σ H Q hs hm h => h.ok (v := []) (Stp.refl hm) RepKV.nil⟩
  | @cons k v mk mv ks vs ms hk hv r ih =>
    obtain ⟨trs, p, ih⟩ := ih
    refine ⟨(WE X k, WE X v) :: trs, pps_cons pe_w pe_w p, fun ρ μ s σ H Q hs hm h => ?_⟩
    refine hk ρ μ s σ H _ hs hm (h.bind fun ku μ1 x H1 ρ1 t1 r1 h1 => ?_)
    refine hv ρ1 μ1 s σ H1 _ (t1.s hs) t1.mem (h1.bind fun u μ2 y H2 ρ2 t2 r2 h2 => ?_)
    split at h2
    · rename_i key e
      have ex : x = kV key := keyU_ok (t2.v r1) e
      subst ex
      refine ih ρ2 μ2 s σ H2 _ (t2.s (t1.s hs)) t2.mem (h2.bind (rel1 := relKV) fun kus μ3 kvs H3 ρ3 t3 r3 h3 => ?_)
      exact h3.ok (v := (key, y) :: kvs) (Stp.refl t3.mem) (RepKV.cons (t3.v r2) r3)
    · exact h2.elim
theorem ce_disp {ks : List (Option Expr)} {vs : List Expr} {ms : List (FE × FE)} {pos : Pos} (c : CP X W ks vs ms) (hall : ks.all (·.isSome) = true := by rfl) (hl : ks.length = vs.length := by rfl) (h0 : ks ≠ [] := by exact List.cons_ne_nil _ _)
    (h15 : ks.length ≤ 15 := by decide) : CE X W (.Dict ks vs pos) (fDisp ms) := by
  intro ρ μ s σ H Q hs hm h
  obtain ⟨trs, p, run⟩ := c.pairs (pos := pos)
  refine ⟨_, pe_disp p hall hl h0 h15, fun q nq => ?_⟩
  have t0 := newD hm nq (RepKV.nil (K := X.K) (H := H) (ρ := ρ))
  refine run (ρ ++ [q]) (μ ++ [.dct []]) s σ _ _ (t0.s hs) t0.mem ((Post.from' t0 h).bind (rel1 := relKV) fun kus μ1 kvs H1 ρ1 t1 r1 h1 => ?_)
  split at h1
  · rename_i e
    split at h1
    · rename_i hz
      have er : ρ1[μ.length]? = some q := t1.ext.get (by rw [← hm.len]; simp)
      obtain ⟨c, ec, rc⟩ := t1.mem.at er
      rw [e] at ec
      cases ec
      obtain ⟨kv0, a1, a2, a3⟩ := rc
      have : kv0 = [] := by simpa using a2
      subst this
      refine ⟨a1, kvs, rfl, by rw [r1.length]; exact hz, ?_⟩
      exact h1.ok (putD t1.mem er e (RepKV.merge r1 RepKV.nil)) (.ref er)
    · exact h1.elim
  · exact h1.elim
end
end Dg
/-! Dg11: try .. except C as e: return .., where e is asked by isinstance alone. -/
namespace Dg
open PySem PySem.Spec PyProof.Rows L2 RZ
theorem RepS.hide {K : PySem.W.Frag} {H : Hp} {ρ : List Addr} {s : Slots} {σ : L2.St} (h : RepS K H ρ s σ) (i : Nat) (x : Option V) : RepS K H ρ (s.set i none) (σ.set i x) := by
  refine ⟨by simpa using h.len, fun j u e => ?_⟩
  by_cases hj : i = j
  · subst hj
    rw [List.getElem?_set] at e
    simp at e
  · rw [List.getElem?_set_ne hj] at e
    rw [List.getElem?_set_ne hj]
    exact h.get j u e
section
variable {X : Cx} {W : WX} {k i : Nat} {a : Addr}
/-- an expression where slot i holds a -/
def CEat (X : Cx) (W : WX) (i : Nat) (a : Addr) (e : Expr) (m : FE) : Prop := ∀ ρ μ s σ H Q, σ[i]? = some (some (.ref a)) → RepS X.K H ρ s σ → RepM X.K H ρ μ → Post X W σ relV ρ H (m s μ) Q → WE X e σ H Q
theorem at_of {e : Expr} {m : FE} (h : CE X W e m) : CEat X W i a e m := fun ρ μ s σ H Q _ hs hm q => h ρ μ s σ H Q hs hm q
theorem at_one {op : BoolOp} {e : Expr} {m : FE} {pos : Pos} (ha : CEat X W i a e m) : CEat X W i a (.BoolOp op [e] pos) m := fun ρ μ s σ H Q hi hs hm p => ⟨_, pe_one pe_w, ha ρ μ s σ H Q hi hs hm p⟩
theorem at_and {e b : Expr} {rest : List Expr} {ma mb : FE} {pos : Pos} (ha : CEat X W i a e ma) (hb : CEat X W i a (.BoolOp .And (b :: rest) pos) mb) : CEat X W i a (.BoolOp .And (e :: b :: rest) pos) (fAnd ma mb) := by
  intro ρ μ s σ H Q hi hs hm h
  refine ⟨_, pe_and pe_w pe_w, ?_⟩
  refine ha ρ μ s σ H _ hi hs hm (h.bind fun b μ1 x H1 ρ1 t1 r1 h1 => ?_)
  split at h1
  · cases r1
    exact ⟨_, rfl, iteT (hb ρ1 μ1 s σ H1 Q hi (t1.s hs) t1.mem h1)⟩
  · cases r1
    exact ⟨_, rfl, iteF (h1.ok (Stp.refl t1.mem) .bl)⟩
  · exact h1.elim
theorem at_or {e b : Expr} {rest : List Expr} {ma mb : FE} {pos : Pos} (ha : CEat X W i a e ma) (hb : CEat X W i a (.BoolOp .Or (b :: rest) pos) mb) : CEat X W i a (.BoolOp .Or (e :: b :: rest) pos) (fOr ma mb) := by
  intro ρ μ s σ H Q hi hs hm h
  refine ⟨_, pe_or pe_w pe_w, ?_⟩
  refine ha ρ μ s σ H _ hi hs hm (h.bind fun b μ1 x H1 ρ1 t1 r1 h1 => ?_)
  split at h1
  · cases r1
    exact ⟨_, rfl, iteT (h1.ok (Stp.refl t1.mem) .bl)⟩
  · cases r1
    exact ⟨_, rfl, iteF (hb ρ1 μ1 s σ H1 Q hi (t1.s hs) t1.mem h1)⟩
  · exact h1.elim
theorem at_not {e : Expr} {ma : FE} {pos : Pos} (ha : CEat X W i a e ma) : CEat X W i a (.UnaryOp .Not e pos) (fNot ma) := by
  intro ρ μ s σ H Q hi hs hm h
  refine ⟨_, pe_not pe_w, ?_⟩
  refine ha ρ μ s σ H _ hi hs hm (h.bind fun b μ1 x H1 ρ1 t1 r1 h1 => ?_)
  split at h1
  · cases r1
    exact ⟨_, rfl, h1.ok (Stp.refl t1.mem) .bl⟩
  · exact h1.elim
theorem at_isE {D Cy : Addr} {oe : Obj} {pn : List (Addr × Obj)} {n y : Str} {b : Bool} {p p1 p2 pos : Pos} (C : ExcC X.K D) (hz : Zc (.ref D) none oe) (hf : ∃ vs, oe.data = .fields vs) (hk : PySem.W.kitOne X.K (.ref D) (.ref Cy) = some b)
    (hN : X.N[i]? = some n) (hv : Vis X.env.scope n) (hy : X.mg y = some (.ref Cy)) (hgy : Gl X y) (hg : Gl X "isinstance") (hm0 : X.mg "isinstance" = none)
    (hd : (n == ("__debug__" : Str)) = false := by decide) (hcd : (n == ("__classdict__" : Str)) = false := by decide) (hdy : (y == ("__debug__" : Str)) = false := by decide)
    (he : starEach [.Name n p1, .Name y p2] (X.suite a ((a, oe) :: pn)).env = (false, eval (.Name n p1) (X.suite a ((a, oe) :: pn)).env) :: starEach [.Name y p2] (X.suite a ((a, oe) :: pn)).env := by rfl)
    (he2 : starEach [.Name y p2] (X.suite a ((a, oe) :: pn)).env = (false, eval (.Name y p2) (X.suite a ((a, oe) :: pn)).env) :: starEach [] (X.suite a ((a, oe) :: pn)).env := by rfl)
    (hpl : (backTo pos (starEach [.Name y p2] (X.suite a ((a, oe) :: pn)).env)).any (·.1) = false := by rfl) :
    CEat (X.suite a ((a, oe) :: pn)) W i a (.Call (.Name "isinstance" p) [.Name n p1, .Name y p2] [] pos) (fC (.bl b)) := by
  intro ρ μ s σ H Q hi hs hm h
  have hv1 : PE (X.suite a ((a, oe) :: pn)) (.Name n p1) (tVar i) := pe_var hN hv hd hcd
  have hv2 : PE (X.suite a ((a, oe) :: pn)) (.Name y p2) (tC (.ref Cy)) := pe_glob hgy hy (v := .ref Cy) rfl hdy
  refine ⟨_, pe_callB (call_isE C hz hf) hg hm0 bt_isinstance (pa_cons hv1 (pa_cons hv2 pa_nil he2) he) (he := he) (hpl := hpl), ?_⟩
  refine ⟨.ref a, hi, ?_⟩
  refine ⟨.ref Cy, .ref Cy, b, rfl, fun u hu => hu, hk, h.ok (Stp.refl hm) .bl⟩
/-! ### isinstance(e, C) by the name of the class that was raised -/
def fIsX (tab : List (Str × Bool)) (c : Str) : FE := match tab.lookup c with
  | some b => fC (.bl b)
  | none => fun _ _ => .bad
def Isx (K : PySem.W.Frag) (mg : Str → Option Value) (x y : Str) (b : Bool) : Prop := ∃ D Cy : Addr, mg x = some (.ref D) ∧ mg y = some (.ref Cy) ∧ ExcC K D ∧ PySem.W.kitOne K (.ref D) (.ref Cy) = some b
theorem isx_cons {K : PySem.W.Frag} {mg : Str → Option Value} {x y : Str} {b : Bool} {l : List (Str × Bool)} (h : Isx K mg x y b) (r : ∀ q ∈ l, Isx K mg q.1 y q.2) : ∀ q ∈ ((x, b) :: l), Isx K mg q.1 y q.2 := by
  intro q hq
  rcases List.mem_cons.mp hq with rfl | hq
  · exact h
  · exact r q hq
theorem exC_ok {K : PySem.W.Frag} {D : Addr} (c : exC K D = true) : ExcC K D := by
  unfold exC at c
  simp only [Bool.and_eq_true, decide_eq_true_eq] at c
  obtain ⟨c1, c2, c3, c4, c5, c6, c7, c8⟩ := c
  exact ⟨He.eqO_ok c1, He.eqO_ok c2, c3, c4, He.eqO_ok c5, He.eqO_ok c6, c7, c8⟩
theorem isxF_ok {K : PySem.W.Frag} {h : Heap} {mg : Str → Option Value} (KX : K.In h) (N : h.Ns mainGlobals mg) {x y : Str} {b : Bool} (c1 : (He.Fa.glo x).ok K = true) (c2 : (He.Fa.glo y).ok K = true) (c3 : (FaU.isx x y b).ok K = true) : Isx K mg x y b := by
  simp only [FaU.ok, Bool.and_eq_true, decide_eq_true_eq] at c3
  exact ⟨He.ga K x, He.ga K y, He.glo_ok KX N c1, He.glo_ok KX N c2, exC_ok c3.1, c3.2⟩
theorem at_isX {D : Addr} {oe : Obj} {pn : List (Addr × Obj)} {n y c : Str} {tab : List (Str × Bool)} {p p1 p2 pos : Pos} (ht : ∀ q ∈ tab, Isx X.K X.mg q.1 y q.2) (hc : X.mg c = some (.ref D)) (hz : Zc (.ref D) none oe) (hf : ∃ vs, oe.data = .fields vs)
    (hN : X.N[i]? = some n) (hv : Vis X.env.scope n) (hgy : Gl X y) (hg : Gl X "isinstance") (hm0 : X.mg "isinstance" = none)
    (hd : (n == ("__debug__" : Str)) = false := by decide) (hcd : (n == ("__classdict__" : Str)) = false := by decide) (hdy : (y == ("__debug__" : Str)) = false := by decide)
    (he : starEach [.Name n p1, .Name y p2] (X.suite a ((a, oe) :: pn)).env = (false, eval (.Name n p1) (X.suite a ((a, oe) :: pn)).env) :: starEach [.Name y p2] (X.suite a ((a, oe) :: pn)).env := by rfl)
    (he2 : starEach [.Name y p2] (X.suite a ((a, oe) :: pn)).env = (false, eval (.Name y p2) (X.suite a ((a, oe) :: pn)).env) :: starEach [] (X.suite a ((a, oe) :: pn)).env := by rfl)
    (hpl : (backTo pos (starEach [.Name y p2] (X.suite a ((a, oe) :: pn)).env)).any (·.1) = false := by rfl) :
    CEat (X.suite a ((a, oe) :: pn)) W i a (.Call (.Name "isinstance" p) [.Name n p1, .Name y p2] [] pos) (fIsX tab c) := by
  unfold fIsX
  cases hl : tab.lookup c with
  | none => exact fun ρ μ s σ H Q _ _ _ q => q.elim
  | some b =>
    obtain ⟨D2, Cy, e1, e2, e3, e4⟩ := ht (c, b) (lookup_mem hl)
    simp only at e1 e2 e3 e4
    rw [hc] at e1
    cases e1
    exact at_isE e3 hz hf e4 hN hv e2 hgy hg hm0 hd hcd hdy he he2 hpl
theorem bt_ValueError : bootBuiltins "ValueError" = some (.type "ValueError") := by decide +kernel
def Isv (K : PySem.W.Frag) (mg : Str → Option Value) (x : Str) (b : Bool) : Prop := ∃ D : Addr, mg x = some (.ref D) ∧ ExcC K D ∧ PySem.W.kitOne K (.ref D) (.type "ValueError") = some b
theorem isv_cons {K : PySem.W.Frag} {mg : Str → Option Value} {x : Str} {b : Bool} {l : List (Str × Bool)} (h : Isv K mg x b) (r : ∀ q ∈ l, Isv K mg q.1 q.2) : ∀ q ∈ ((x, b) :: l), Isv K mg q.1 q.2 := by
  intro q hq
  rcases List.mem_cons.mp hq with rfl | hq
  · exact h
  · exact r q hq
theorem isvF_ok {K : PySem.W.Frag} {h : Heap} {mg : Str → Option Value} (KX : K.In h) (N : h.Ns mainGlobals mg) {x : Str} {b : Bool} (c1 : (He.Fa.glo x).ok K = true) (c3 : (FaU.isv x "ValueError" b).ok K = true) : Isv K mg x b := by
  simp only [FaU.ok, Bool.and_eq_true, decide_eq_true_eq] at c3
  exact ⟨He.ga K x, He.glo_ok KX N c1, exC_ok c3.1.1, c3.2⟩
theorem at_isV {D : Addr} {oe : Obj} {pn : List (Addr × Obj)} {n c : Str} {tab : List (Str × Bool)} {p p1 p2 pos : Pos} (ht : ∀ q ∈ tab, Isv X.K X.mg q.1 q.2) (hc : X.mg c = some (.ref D)) (hz : Zc (.ref D) none oe) (hf : ∃ vs, oe.data = .fields vs)
    (hN : X.N[i]? = some n) (hv : Vis X.env.scope n) (hgy : Gl X "ValueError") (hmy : X.mg "ValueError" = none) (hg : Gl X "isinstance") (hm0 : X.mg "isinstance" = none)
    (hd : (n == ("__debug__" : Str)) = false := by decide) (hcd : (n == ("__classdict__" : Str)) = false := by decide)
    (he : starEach [.Name n p1, .Name "ValueError" p2] (X.suite a ((a, oe) :: pn)).env = (false, eval (.Name n p1) (X.suite a ((a, oe) :: pn)).env) :: starEach [.Name "ValueError" p2] (X.suite a ((a, oe) :: pn)).env := by rfl)
    (he2 : starEach [.Name "ValueError" p2] (X.suite a ((a, oe) :: pn)).env = (false, eval (.Name "ValueError" p2) (X.suite a ((a, oe) :: pn)).env) :: starEach [] (X.suite a ((a, oe) :: pn)).env := by rfl)
    (hpl : (backTo pos (starEach [.Name "ValueError" p2] (X.suite a ((a, oe) :: pn)).env)).any (·.1) = false := by rfl) :
    CEat (X.suite a ((a, oe) :: pn)) W i a (.Call (.Name "isinstance" p) [.Name n p1, .Name "ValueError" p2] [] pos) (fIsX tab c) := by
  unfold fIsX
  cases hl : tab.lookup c with
  | none => exact fun ρ μ s σ H Q _ _ _ q => q.elim
  | some b =>
    obtain ⟨D2, e1, e3, e4⟩ := ht (c, b) (lookup_mem hl)
    simp only at e1 e3 e4
    rw [hc] at e1
    cases e1
    intro ρ μ s σ H Q hi hs hm h
    have hv1 : PE (X.suite a ((a, oe) :: pn)) (.Name n p1) (tVar i) := pe_var hN hv hd hcd
    have hv2 : PE (X.suite a ((a, oe) :: pn)) (.Name "ValueError" p2) (tC (.ty "ValueError")) := pe_bltn hgy hmy bt_ValueError rfl
    refine ⟨_, pe_callB (call_isE e3 hz hf) hg hm0 bt_isinstance (pa_cons hv1 (pa_cons hv2 pa_nil he2) he) (he := he) (hpl := hpl), ?_⟩
    refine ⟨.ref a, hi, ?_⟩
    exact ⟨.ty "ValueError", .type "ValueError", b, rfl, fun u hu => hu, e4, h.ok (Stp.refl hm) .bl⟩
/-! ### the statement -/
def sTryAs (tab : List (Str × Bool)) (i : Nat) (body : FS) (ms : Str → FE) : FS := fun s μ => match body s μ with
  | .ex c s1 μ1 => match tab.lookup c with
    | some true => if i < s1.length then ofR (ms c (s1.set i none) μ1) (s1.set i none) fun u μ2 => .rt u μ2 else .bad
    | some false => .ex c s1 μ1
    | none => .bad
  | o => o
theorem cs_tryAs_end {a0 : Addr} {oe : Obj} {pn2 : List (Addr × Obj)} {e : Expr} {m : FE} {rp : Pos} {ρ ρ' : List Addr} {H H' : Hp} {s1 : Slots} {m1 : Mem} {σ' : L2.St} {D D' : Ends} (hce : CEat (X.suite a0 ((a0, oe) :: pn2)) W i a0 e m) (hlt : i < s1.length) (r : RepS X.K H' ρ' s1 σ') (t : Stp X.K ρ H ρ' H' m1)
    (h : PostS X W ρ H (ofR (m (s1.set i none) m1) (s1.set i none) fun u μ2 => .rt u μ2) D) (hD : D'.rt = D.rt := by rfl) : WSs (X.suite a0 ((a0, oe) :: pn2)) [.Return (some e) rp] D' (σ'.set i (some (.ref a0))) H' := by
  have r2 := r.hide i (some (.ref a0))
  have hl : i < σ'.length := by rw [← r.len]; exact hlt
  have hz2 : (σ'.set i (some (V.ref a0)))[i]? = some (some (.ref a0)) := by rw [List.getElem?_set_self hl]
  refine ⟨_, pss_one (ps_ret pe_w), ?_⟩
  refine hce ρ' m1 _ _ H' _ hz2 r2 t.mem ?_
  have h' : PostS X W ρ' H' (ofR (m (s1.set i none) m1) (s1.set i none) fun u μ2 => .rt u μ2) D := PostS.from t h
  exact PostS.bind r2 h' fun u μ1 y H1 ρ1 t1 r1 h1 => by rw [hD]; exact h1 y H1 ρ1 (Stp.refl t1.mem) r1
theorem cs_tryAs {x n : Str} {body : List Stmt} {e : Expr} {np pos pos' rp : Pos} {tab : List (Str × Bool)} {mb : FS} {ms : Str → FE} (G : Good X W k) (hN : X.N.Nodup) (hi : X.N[i]? = some n) (hln : X.env.kindOf n = some .local) (hx : Exn X.K X.mg x) (hg : Gl X x)
    (htab : ∀ q ∈ tab, Exm X.K X.mg q.1 x q.2)
    (hb : ∀ (W' : WX) (pn : List (Addr × Obj)) (xe : Value → Shared → Prop), Good (X.tr pn xe) W' k → CSs (X.tr pn xe) W' body mb)
    (hsu : ∀ (c : Str) (C a : Addr) (oe : Obj) (pn : List (Addr × Obj)), (c, true) ∈ tab → X.mg c = some (.ref C) → Zc (.ref C) none oe → (∃ vs, oe.data = .fields vs) → CEat (X.suite a ((a, oe) :: pn)) W i a e (ms c))
    (hst : X.stack = X.env :: X.outer := by rfl) (hfr : X.env.frame = some X.env.locals := by rfl) (hdb : (x == ("__debug__" : Str)) = false := by decide) :
    CS X W (.Try body [.ExceptHandler (some (.Name x np)) (some n) [.Return (some e) rp] pos'] [] [] pos) (sTryAs tab i mb ms) := by
  obtain ⟨C, h1, _⟩ := hx
  intro ρ μ s σ H D hs hm h
  refine ⟨_, ps_try_as (c := .ref C) hst hfr hN hi hln ⟨hg, hdb, .inl h1⟩ (Wout := W) (tb := fun W' D σ H => ∀ pn xe, Takes (X.tr pn xe) W' → PassesOwn (model X.prog X.w) X.A X.env xe → WSs (X.tr pn xe) body D σ H)
    (ts := fun a cls d D σ H => ∀ oe pn, Zc cls d oe → (∃ vs, oe.data = .fields vs) → WSs (X.suite a ((a, oe) :: pn)) [.Return (some e) rp] D σ H) G.tk
    (fun W' pn xe tk' po => ⟨fun pins s σ H D I h => pss_w.run pins s σ H D I (h pn xe tk' po)⟩) (fun a oe cls d pn hz hf => ⟨fun pins s σ H D I h => pss_w.run pins s σ H D I (h oe pn hz hf)⟩), ?_⟩
  intro pn xe tk' po
  refine hb _ pn xe (G.tr tk' po) ρ μ s σ H D hs hm ?_
  unfold sTryAs at h
  cases eb : mb s μ with
  | nx s1 m1 => rw [eb] at h; exact h
  | rt u m1 => rw [eb] at h; exact h
  | bk s1 m1 => rw [eb] at h; exact h
  | ct s1 m1 => rw [eb] at h; exact h
  | bad => rw [eb] at h; exact h
  | ex c' s1 m1 =>
    rw [eb] at h
    simp only at h
    intro cls σ' H' ρ' t r em
    cases hl : tab.lookup c' with
    | none => rw [hl] at h; exact h.elim
    | some b =>
      rw [hl] at h
      obtain ⟨Cx, Cy, e1, e2, e3⟩ := htab (c', b) (lookup_mem hl)
      simp only at e1 e2 e3
      have em' : X.mg c' = some cls := em
      rw [em'] at e1
      cases e1
      rw [h1] at e2
      cases e2
      refine ⟨b, e3, ?_, ?_⟩
      · rintro rfl a0 ha oe pn2 hz hf
        simp only at h
        split at h
        · rename_i hlt
          exact cs_tryAs_end (hsu c' Cx a0 oe pn2 (lookup_mem hl) em' hz hf) hlt r t h
        · exact h.elim
      · rintro rfl
        exact h _ σ' H' ρ' t r em
end
end Dg
/-! Dg12: x in TABLE, TABLE a dict of the module with text keys. -/
namespace Dg
open PySem PySem.Spec PyProof.Rows L2 RZ
theorem find_keys {z : Str} : ∀ {l : List DictEntry} {ks : List Str}, l.map keyN = ks.map some → l.any (·.refKey) = false ∧ (l.find? (·.key.isStr z)).isSome = decide (z ∈ ks)
  | [], ks, h => by
    have : ks = [] := by simpa using h.symm
    subst this
    simp
  | e :: l, [], h => by simp at h
  | e :: l, k :: ks, h => by
    simp only [List.map_cons, List.cons.injEq] at h
    obtain ⟨h1, h2⟩ := h
    obtain ⟨i1, i2⟩ := find_keys (z := z) h2
    unfold keyN at h1
    split at h1
    · rename_i x t ek
      cases h1
      have ek2 : e.refKey = false := by unfold DictEntry.refKey; rw [ek]
      refine ⟨by rw [List.any_cons, ek2, i1]; rfl, ?_⟩
      rw [List.find?_cons]
      by_cases hz : k = z
      · subst hz
        simp [ek, Value.isStr]
      · have : e.key.isStr z = false := by rw [ek]; simpa [Value.isStr] using hz
        rw [this]
        simp only [i2, List.mem_cons]
        simp [Ne.symm hz]
    · cases h1
theorem ns_keys {K : PySem.W.Frag} {a : Addr} {ks : List Str} (h : keysB K a ks = true) (z : Str) : ∃ r, PySem.W.nsIn K a z = some r ∧ r.isSome = decide (z ∈ ks) := by
  unfold keysB at h
  unfold PySem.W.nsIn
  split at h
  · rename_i oc od es n sl e
    obtain ⟨i1, i2⟩ := find_keys (z := z) (of_decide_eq_true h)
    rw [e]
    simp only
    cases ef : es.toList.find? (·.key.isStr z) with
    | some q => rw [ef] at i2; exact ⟨_, rfl, i2⟩
    | none => rw [ef] at i2; simp only [i1]; exact ⟨none, rfl, i2⟩
  · cases h
def KIn (K : PySem.W.Frag) (mg : Str → Option Value) (w : World) (x : Str) (ks : List Str) : Prop := ∃ a es n, mg x = some (.ref a) ∧ KDict K w a es n ∧ keysB K a ks = true
section
variable {X : Cx} {W : WX} {k : Nat}
def fKIn (ks : List Str) (a : FE) : FE := fun s μ => (a s μ).bind fun u μ1 => match u with
  | .str z => .ok (.bl (decide (z ∈ ks))) μ1
  | _ => .bad
theorem ce_kin {x : Str} {ks : List Str} {a : Expr} {ma : FE} {p pos : Pos} (hg : Gl X x) (h : KIn X.K X.mg X.w x ks) (ha : CE X W a ma) (hd : (x == ("__debug__" : Str)) = false := by decide) : CE X W (.Compare a [.In] [.Name x p] pos) (fKIn ks ma) := by
  obtain ⟨d, es, n, h1, h2, h3⟩ := h
  intro ρ μ s σ H Q hs hm q
  refine ⟨_, pe_cmpR (op_in_kd h2) pe_w (pe_glob hg h1 (v := .ref d) rfl hd) (by rfl), ?_⟩
  refine ha ρ μ s σ H _ hs hm (q.bind fun u μ1 y H1 ρ1 t1 r1 q1 => ?_)
  cases u with
  | str z =>
    cases r1
    obtain ⟨r, e1, e2⟩ := ns_keys h3 z
    refine ⟨z, r, rfl, rfl, e1, ?_⟩
    rw [e2]
    exact q1.ok (Stp.refl t1.mem) .bl
  | _ => exact q1.elim
theorem ce_knin {x : Str} {ks : List Str} {a : Expr} {ma : FE} {p pos : Pos} (hg : Gl X x) (h : KIn X.K X.mg X.w x ks) (ha : CE X W a ma) (hd : (x == ("__debug__" : Str)) = false := by decide) : CE X W (.Compare a [.NotIn] [.Name x p] pos) (fNot (fKIn ks ma)) := by
  obtain ⟨d, es, n, h1, h2, h3⟩ := h
  intro ρ μ s σ H Q hs hm q
  refine ⟨_, pe_cmpR (op_notIn_kd h2) pe_w (pe_glob hg h1 (v := .ref d) rfl hd) (by rfl), ?_⟩
  have q' : Post X W σ relV ρ H ((ma s μ).bind fun u μ1 => ((match u with
    | .str z => .ok (.bl (decide (z ∈ ks))) μ1
    | _ => .bad : Res U)).bind fun u μ1 => match u with
    | .bl b => .ok (.bl (!b)) μ1
    | _ => .bad) Q := by
    have e : fNot (fKIn ks ma) s μ = ((ma s μ).bind fun u μ1 => ((match u with
      | .str z => .ok (.bl (decide (z ∈ ks))) μ1
      | _ => .bad : Res U)).bind fun u μ1 => match u with
      | .bl b => .ok (.bl (!b)) μ1
      | _ => .bad) := by
      unfold fNot fKIn
      cases ma s μ <;> rfl
    rw [← e]; exact q
  refine ha ρ μ s σ H _ hs hm (q'.bind fun u μ1 y H1 ρ1 t1 r1 q1 => ?_)
  cases u with
  | str z =>
    cases r1
    obtain ⟨r, e1, e2⟩ := ns_keys h3 z
    refine ⟨z, r, rfl, rfl, e1, ?_⟩
    rw [e2]
    exact Post.ok (u := U.bl (!decide (z ∈ ks))) q1 (Stp.refl t1.mem) .bl
  | _ => exact q1.elim
def tKIn (ks : List Str) (a : FE) : FT := fun s μ => (a s μ).bind fun u μ1 => match u with
  | .str z => .ok (decide (z ∈ ks)) μ1
  | _ => .bad
theorem ct_kin {x : Str} {ks : List Str} {a : Expr} {ma : FE} {p pos : Pos} (hg : Gl X x) (h : KIn X.K X.mg X.w x ks) (ha : CE X W a ma) (hd : (x == ("__debug__" : Str)) = false := by decide) : CT X W (.Compare a [.In] [.Name x p] pos) (tKIn ks ma) := by
  obtain ⟨d, es, n, h1, h2, h3⟩ := h
  intro ρ μ s σ H Q hs hm q
  refine ⟨_, pt_cmpR (op_in_kd h2) pe_w (pe_glob hg h1 (v := .ref d) rfl hd) (by rfl), ?_⟩
  refine ha ρ μ s σ H _ hs hm (q.bind fun u μ1 y H1 ρ1 t1 r1 q1 => ?_)
  cases u with
  | str z =>
    cases r1
    obtain ⟨r, e1, e2⟩ := ns_keys h3 z
    refine ⟨z, r, rfl, rfl, e1, ?_⟩
    rw [e2]
    exact ⟨_, rfl, q1.ok (Stp.refl t1.mem) rfl⟩
  | _ => exact q1.elim
def tKNin (ks : List Str) (a : FE) : FT := fun s μ => (a s μ).bind fun u μ1 => match u with
  | .str z => .ok (!decide (z ∈ ks)) μ1
  | _ => .bad
theorem ct_knin {x : Str} {ks : List Str} {a : Expr} {ma : FE} {p pos : Pos} (hg : Gl X x) (h : KIn X.K X.mg X.w x ks) (ha : CE X W a ma) (hd : (x == ("__debug__" : Str)) = false := by decide) : CT X W (.Compare a [.NotIn] [.Name x p] pos) (tKNin ks ma) := by
  obtain ⟨d, es, n, h1, h2, h3⟩ := h
  intro ρ μ s σ H Q hs hm q
  refine ⟨_, pt_cmpR (op_notIn_kd h2) pe_w (pe_glob hg h1 (v := .ref d) rfl hd) (by rfl), ?_⟩
  refine ha ρ μ s σ H _ hs hm (q.bind fun u μ1 y H1 ρ1 t1 r1 q1 => ?_)
  cases u with
  | str z =>
    cases r1
    obtain ⟨r, e1, e2⟩ := ns_keys h3 z
    refine ⟨z, r, rfl, rfl, e1, ?_⟩
    rw [e2]
    exact ⟨_, rfl, q1.ok (Stp.refl t1.mem) rfl⟩
  | _ => exact q1.elim
end
theorem kin_ok {K : PySem.W.Frag} {h : Heap} {mg : Str → Option Value} {w : World} (KX : K.In h) (N : h.Ns mainGlobals mg) {x : Str} {ks : List Str} {es : Array DictEntry} {n : Nat} (c1 : (He.Fa.glo x).ok K = true) (c2 : (FaU.keys x ks).ok K = true) (D : KDict K w (He.ga K x) es n) : KIn K mg w x ks :=
  ⟨He.ga K x, es, n, He.glo_ok KX N c1, D, c2⟩
end Dg
/-! Dg13: list.index, list.insert, dict.get. -/
namespace Dg
open PySem PySem.Spec PyProof.Rows L2 RZ
section
variable {X : Cx} {W : WX} {k : Nat}
/-! ### list.index of flat values -/
def flU : U → Option V
  | .non => some .non
  | .bl b => some (.bl b)
  | .int i => some (.int i)
  | .str s => some (.str s)
  | _ => none
theorem flU_ok {K : PySem.W.Frag} {H : Hp} {ρ : List Addr} {u : U} {v x : V} (r : RepV K H ρ u v) (e : flU u = some x) : v = x ∧ flatV v = true := by
  cases r <;> simp only [flU, Option.some.injEq, reduceCtorEq] at e
  · subst e; exact ⟨rfl, rfl⟩
  · subst e; exact ⟨rfl, rfl⟩
  · subst e; exact ⟨rfl, rfl⟩
  · subst e; exact ⟨rfl, rfl⟩
def flUs : List U → Option (List V)
  | [] => some []
  | u :: us => match flU u, flUs us with
    | some v, some vs => some (v :: vs)
    | _, _ => none
theorem flUs_ok {K : PySem.W.Frag} {H : Hp} {ρ : List Addr} : ∀ {us : List U} {vs xs : List V}, RepVs K H ρ us vs → flUs us = some xs → vs = xs ∧ vs.all flatV = true
  | [], _, _, r, e => by cases r; cases e; exact ⟨rfl, rfl⟩
  | u :: us, _, xs, r, e => by
    cases r with
    | cons h t =>
      simp only [flUs] at e
      cases e1 : flU u with
      | none => rw [e1] at e; cases e
      | some v =>
        cases e2 : flUs us with
        | none => rw [e1, e2] at e; cases e
        | some vs =>
          rw [e1, e2] at e
          cases e
          obtain ⟨a1, a2⟩ := flU_ok h e1
          obtain ⟨b1, b2⟩ := flUs_ok t e2
          subst a1 b1
          exact ⟨rfl, by simp [a2, b2]⟩
def idxV (y : V) : List V → Option Nat
  | [] => none
  | z :: zs => if eqV z y then some 0 else (idxV y zs).map (· + 1)
theorem idxV_ok {y : V} : ∀ {zs : List V} {j : Nat}, idxV y zs = some j → (∃ z, zs[j]? = some z ∧ eqV z y = true) ∧ ∀ (m : Nat) (z' : V), m < j → zs[m]? = some z' → eqV z' y = false
  | [], j, e => by cases e
  | z :: zs, j, e => by
    simp only [idxV] at e
    by_cases h : eqV z y = true
    · rw [if_pos h] at e
      cases e
      exact ⟨⟨z, rfl, h⟩, fun m z' hm => by omega⟩
    · rw [if_neg h] at e
      cases e2 : idxV y zs with
      | none => rw [e2] at e; cases e
      | some i =>
        rw [e2] at e
        cases e
        obtain ⟨⟨w, a1, a2⟩, b⟩ := idxV_ok e2
        refine ⟨⟨w, by simpa using a1, a2⟩, fun m z' hm hz => ?_⟩
        cases m with
        | zero =>
          simp at hz
          subst hz
          simpa using h
        | succ m => exact b m z' (by have h2 : m + 1 < i + 1 := hm; omega) (by simpa using hz)
def gIndex (u : U) (us : List U) (μ : Mem) : Res U := match lstU μ u, us with
  | some xs, [w] => match flUs xs, flU w with
    | some vs, some y => match idxV y vs with
      | some j => .ok (.int (j : Nat)) μ
      | none => .bad
    | _, _ => .bad
  | _, _ => .bad
theorem gs_index : MtS X W "list.index" gIndex := by
  intro ρ μ σ H u us x vs Q hm ru rus h
  unfold gIndex at h
  split at h
  · rename_i xs w e1
    split at h
    · rename_i ws y e2 e3
      split at h
      · rename_i j e4
        obtain ⟨a, zs, rfl, hs, rr⟩ := lstU_ok hm ru e1
        cases rus with
        | cons r1 r2 =>
          cases r2
          obtain ⟨p1, p2⟩ := flU_ok r1 e3
          obtain ⟨q1, q2⟩ := flUs_ok rr e2
          subst p1 q1
          obtain ⟨⟨z, a1, a2⟩, a3⟩ := idxV_ok e4
          exact ⟨_, mt_index, a, _, _, j, z, rfl, rfl, hs, p2, q2, a1, a2, a3, h.ok (Stp.refl hm) .int⟩
      · exact h.elim
    · exact h.elim
  · exact h.elim
/-! ### list.insert -/
def gInsert (u : U) (us : List U) (μ : Mem) : Res U := match u, us with
  | .ref i, [.int n, w] => match μ[i]? with
    | some (.lst xs) => if xs.length < lim ∧ 0 ≤ n ∧ n < 2 ^ 62 then .ok .non (μ.set i (.lst (xs.take n.toNat ++ [w] ++ xs.drop n.toNat))) else .bad
    | _ => .bad
  | _, _ => .bad
theorem gs_insert : MtS X W "list.insert" gInsert := by
  intro ρ μ σ H u us x vs Q hm ru rus h
  unfold gInsert at h
  split at h
  · split at h
    · rename_i e
      split at h
      · rename_i hc
        cases ru with
        | ref hr =>
          cases rus with
          | cons r1 r2 =>
            cases r1
            cases r2 with
            | cons r1 r2 =>
              cases r2
              obtain ⟨ws, q, rr⟩ := lst_of hm hr e
              exact ⟨_, mt_insert, _, ws, _, _, rfl, rfl, q, by rw [← rr.length]; exact lim_lt hc.1, hc.2.1, by have := hc.2.2; omega, h.ok (putL hm hr e (((rr.take _).append (.one r1)).append (rr.drop _))) .non⟩
      · exact h.elim
    · exact h.elim
  · exact h.elim
end
end Dg
/-! Dg14: walks over dicts (locked meanwhile), dict.get. -/
namespace Dg
open PySem PySem.Spec PyProof.Rows L2 RZ
def kU : Key → U
  | .inl i => .int i
  | .inr x => .str x
section
variable {X : Cx} {W : WX} {k : Nat}
/-! ### locks -/
theorem TV.lock {H : Hp} {d : Addr} {u v : HO} (h : H d = some u) (hs : Sft u) : TV H (upd H d v) := (TX.put fun o' r => by rw [h] at r; cases r; exact hs).tv
theorem TV.unlock {H : Hp} {d : Addr} {o : Obj} {u v : HO} (h : H d = some (.frz o u)) (h1 : ∀ xs, u ≠ .tup xs) (h2 : ∀ xs, u ≠ .lst xs) : TV H (upd H d v) := ⟨fun a xs r => by
  rcases r with r | ⟨z, r⟩
  · have ne : a ≠ d := fun e => by rw [e, h] at r; cases r
    exact .inl (by rw [upd_ne ne]; exact r)
  · have ne : a ≠ d := fun e => by rw [e, h] at r; cases r; exact h1 _ rfl
    exact .inr ⟨z, by rw [upd_ne ne]; exact r⟩, fun a z u r => by
  have ne : a ≠ d := fun e => by rw [e, h] at r; cases r; exact h2 _ rfl
  rw [upd_ne ne]; exact r⟩
/-- from before a lock to behind it -/
theorem TX.across {H H' : Hp} {d : Addr} {o : Obj} {u : HO} (h0 : H d = some u) (hs : Sft u) (t : TX (upd H d (.frz o u)) H') (h1 : H' d = some (.frz o u)) (v : HO) : TX H (upd H' d v) := ⟨fun a xs r => by
  have ne : a ≠ d := fun e => by
    rcases r with r | ⟨z, r⟩
    · rw [e, h0] at r; cases r; exact hs.1 _ rfl
    · rw [e, h0] at r; cases r; exact hs.2 _ _ rfl
  have r2 : Rd (upd H d (.frz o u)) a (.tup xs) := by
    rcases r with r | ⟨z, r⟩
    · exact .inl (by rw [upd_ne ne]; exact r)
    · exact .inr ⟨z, by rw [upd_ne ne]; exact r⟩
  rcases t.1 a xs r2 with r | ⟨z, r⟩
  · exact .inl (by rw [upd_ne ne]; exact r)
  · exact .inr ⟨z, by rw [upd_ne ne]; exact r⟩, fun a z w r => by
  have ne : a ≠ d := fun e => by rw [e, h0] at r; cases r; exact hs.2 _ _ rfl
  rw [upd_ne ne]
  exact t.2 a z w (by rw [upd_ne ne]; exact r)⟩
theorem TX.into {H H' : Hp} {d : Addr} {o : Obj} {u : HO} (h0 : H d = some u) (hs : Sft u) (t : TX (upd H d (.frz o u)) H') : TX H H' := ⟨fun a xs r => by
  have ne : a ≠ d := fun e => by
    rcases r with r | ⟨z, r⟩
    · rw [e, h0] at r; cases r; exact hs.1 _ rfl
    · rw [e, h0] at r; cases r; exact hs.2 _ _ rfl
  refine t.1 a xs ?_
  rcases r with r | ⟨z, r⟩
  · exact .inl (by rw [upd_ne ne]; exact r)
  · exact .inr ⟨z, by rw [upd_ne ne]; exact r⟩, fun a z w r => by
  have ne : a ≠ d := fun e => by rw [e, h0] at r; cases r; exact hs.2 _ _ rfl
  exact t.2 a z w (by rw [upd_ne ne]; exact r)⟩
def lkC : Cell → Option Cell
  | .dct kus => some (.fdc kus)
  | _ => none
def ulC : Cell → Option Cell
  | .fdc kus => some (.dct kus)
  | _ => none
def ulM (r : Nat) (μ : Mem) : Option Mem := match μ[r]? with
  | some c => match ulC c with
    | some c' => some (μ.set r c')
    | none => none
  | none => none
def ulO (r : Nat) (o : Out) : Out := match o with
  | .nx s μ => match ulM r μ with
    | some μ' => .nx s μ'
    | none => .bad
  | .rt u μ => match ulM r μ with
    | some μ' => .rt u μ'
    | none => .bad
  | .bk s μ => match ulM r μ with
    | some μ' => .bk s μ'
    | none => .bad
  | .ct s μ => match ulM r μ with
    | some μ' => .ct s μ'
    | none => .bad
  | .ex c s μ => .ex c s μ
  | .bad => .bad
/-- the statement, while the dict that e names is locked -/
def sLock (e : FE) (b : FS) : FS := fun s μ => match e s μ with
  | .ok (.ref r) _ => match μ[r]? with
    | some c => match lkC c with
      | some c' => ulO r (b s (μ.set r c'))
      | none => b s μ
    | none => b s μ
  | _ => b s μ
theorem ulM_ok {K : PySem.W.Frag} {H H' : Hp} {ρ ρ' : List Addr} {μ' μ2 : Mem} {r : Nat} {d : Addr} {o : Obj} {u : HO} {kvs0 : List (Key × V)} (hu : u = .dK kvs0) (h0 : H d = some u) (hr : ρ[r]? = some d)
    (t : Stp K ρ (upd H d (.frz o u)) ρ' H' μ') (h1 : H' d = some (.frz o u)) (e : ulM r μ' = some μ2) : Stp K ρ H ρ' (upd H' d u) μ2 ∧ TV H' (upd H' d u) := by
  subst hu
  have tv : TV H' (upd H' d (.dK kvs0)) := TV.unlock h1 (fun _ => by simp) (fun _ => by simp)
  refine ⟨⟨t.ext, TX.across h0 (by simp [Sft]) t.tx h1 _, ?_⟩, tv⟩
  unfold ulM at e
  cases ec : μ'[r]? with
  | none => rw [ec] at e; cases e
  | some c =>
    rw [ec] at e
    cases c with
    | fdc kus =>
      cases e
      obtain ⟨o', kvs, q1, q2, q3⟩ := t.mem.get (t.ext.get hr) ec
      rw [h1] at q1
      cases q1
      exact t.mem.putV tv (t.ext.get hr) ⟨_, upd_same, q2, q3.monoV tv (Ext.refl _)⟩
    | _ => cases e
theorem cs_lock {st : Stmt} {e : FE} {m : FS} (h : CS X W st m) : CS X W st (sLock e m) := by
  intro ρ μ s σ H D hs hm p
  unfold sLock at p
  have plain : PostS X W ρ H (m s μ) D → WS X st D σ H := h ρ μ s σ H D hs hm
  split at p
  · rename_i r μ1 _
    split at p
    · rename_i c ec
      split at p
      · rename_i c' el
        cases c with
        | dct kus =>
          cases el
          have hlt : r < ρ.length := by rw [hm.len]; exact (List.getElem?_eq_some_iff.mp ec).1
          have hr : ρ[r]? = some ρ[r] := List.getElem?_eq_getElem hlt
          obtain ⟨kvs, q1, q2, q3⟩ := hm.get hr ec
          refine ⟨_, ps_lock ps_w, ρ[r], .dK kvs, q1, trivial, fun od => ?_⟩
          have tv : TV H (upd H ρ[r] (.frz od (.dK kvs))) := TV.lock q1 (by simp [Sft])
          have hm' : RepM X.K (upd H ρ[r] (.frz od (.dK kvs))) ρ (μ.set r (.fdc kus)) := hm.putV tv hr ⟨od, kvs, upd_same, q2, q3.monoV tv (Ext.refl _)⟩
          have hs' : RepS X.K (upd H ρ[r] (.frz od (.dK kvs))) ρ s σ := ⟨hs.len, fun i u e => by obtain ⟨v, a1, a2⟩ := hs.get i u e; exact ⟨v, a1, a2.monoV tv (Ext.refl _)⟩⟩
          refine h ρ (μ.set r (.fdc kus)) s σ _ _ hs' hm' ?_
          have frz : ∀ {ρ' H' μ'}, Stp X.K ρ (upd H ρ[r] (.frz od (.dK kvs))) ρ' H' μ' → H' ρ[r] = some (.frz od (.dK kvs)) := fun t => t.tx.2 _ _ _ upd_same
          cases eo : m s (μ.set r (.fdc kus)) with
          | nx s1 m1 =>
            rw [eo] at p
            intro σ' H' ρ' t rs
            refine ⟨frz t, ?_⟩
            simp only [ulO] at p
            split at p
            · rename_i m2 e2
              obtain ⟨t2, tv2⟩ := ulM_ok rfl q1 hr t (frz t) e2
              exact p σ' _ ρ' t2 ⟨rs.len, fun i u e => by obtain ⟨v, a1, a2⟩ := rs.get i u e; exact ⟨v, a1, a2.monoV tv2 (Ext.refl _)⟩⟩
            · exact p.elim
          | rt u m1 =>
            rw [eo] at p
            intro v H' ρ' t rv
            refine ⟨frz t, ?_⟩
            simp only [ulO] at p
            split at p
            · rename_i m2 e2
              obtain ⟨t2, tv2⟩ := ulM_ok rfl q1 hr t (frz t) e2
              exact p v _ ρ' t2 (rv.monoV tv2 (Ext.refl _))
            · exact p.elim
          | bk s1 m1 =>
            rw [eo] at p
            intro σ' H' ρ' t rs
            refine ⟨frz t, ?_⟩
            simp only [ulO] at p
            split at p
            · rename_i m2 e2
              obtain ⟨t2, tv2⟩ := ulM_ok rfl q1 hr t (frz t) e2
              exact p σ' _ ρ' t2 ⟨rs.len, fun i u e => by obtain ⟨v, a1, a2⟩ := rs.get i u e; exact ⟨v, a1, a2.monoV tv2 (Ext.refl _)⟩⟩
            · exact p.elim
          | ct s1 m1 =>
            rw [eo] at p
            intro σ' H' ρ' t rs
            refine ⟨frz t, ?_⟩
            simp only [ulO] at p
            split at p
            · rename_i m2 e2
              obtain ⟨t2, tv2⟩ := ulM_ok rfl q1 hr t (frz t) e2
              exact p σ' _ ρ' t2 ⟨rs.len, fun i u e => by obtain ⟨v, a1, a2⟩ := rs.get i u e; exact ⟨v, a1, a2.monoV tv2 (Ext.refl _)⟩⟩
            · exact p.elim
          | ex c2 s1 m1 =>
            rw [eo] at p
            intro cls σ' H' ρ' t rs em
            exact p cls σ' H' ρ' ⟨t.ext, TX.into q1 (by simp [Sft]) t.tx, t.mem⟩ rs em
          | bad => rw [eo] at p; exact p.elim
        | _ => cases el
      · exact plain p
    · exact plain p
  · exact plain p
/-- an expression, while the dict that e names is locked -/
def ulR (r : Nat) (o : Res U) : Res U := match o with
  | .ok u μ => match ulM r μ with
    | some μ' => .ok u μ'
    | none => .bad
  | .ex c μ => .ex c μ
  | .bad => .bad
def fLock (e : FE) (b : FE) : FE := fun s μ => match e s μ with
  | .ok (.ref r) _ => match μ[r]? with
    | some c => match lkC c with
      | some c' => ulR r (b s (μ.set r c'))
      | none => b s μ
    | none => b s μ
  | _ => b s μ
theorem ce_lock {x : Expr} {e : FE} {m : FE} (h : CE X W x m) : CE X W x (fLock e m) := by
  intro ρ μ s σ H Q hs hm p
  unfold fLock at p
  have plain : Post X W σ relV ρ H (m s μ) Q → WE X x σ H Q := h ρ μ s σ H Q hs hm
  split at p
  · rename_i r μ1 _
    split at p
    · rename_i c ec
      split at p
      · rename_i c' el
        cases c with
        | dct kus =>
          cases el
          have hlt : r < ρ.length := by rw [hm.len]; exact (List.getElem?_eq_some_iff.mp ec).1
          have hr : ρ[r]? = some ρ[r] := List.getElem?_eq_getElem hlt
          obtain ⟨kvs, q1, q2, q3⟩ := hm.get hr ec
          refine ⟨_, pe_lock pe_w, ρ[r], .dK kvs, q1, trivial, fun od => ?_⟩
          have tv : TV H (upd H ρ[r] (.frz od (.dK kvs))) := TV.lock q1 (by simp [Sft])
          have hm' : RepM X.K (upd H ρ[r] (.frz od (.dK kvs))) ρ (μ.set r (.fdc kus)) := hm.putV tv hr ⟨od, kvs, upd_same, q2, q3.monoV tv (Ext.refl _)⟩
          have hs' : RepS X.K (upd H ρ[r] (.frz od (.dK kvs))) ρ s σ := ⟨hs.len, fun i u e => by obtain ⟨v, a1, a2⟩ := hs.get i u e; exact ⟨v, a1, a2.monoV tv (Ext.refl _)⟩⟩
          refine h ρ (μ.set r (.fdc kus)) s σ _ _ hs' hm' ?_
          have frz : ∀ {ρ' H' μ'}, Stp X.K ρ (upd H ρ[r] (.frz od (.dK kvs))) ρ' H' μ' → H' ρ[r] = some (.frz od (.dK kvs)) := fun t => t.tx.2 _ _ _ upd_same
          cases eo : m s (μ.set r (.fdc kus)) with
          | ok u m1 =>
            rw [eo] at p
            intro v H' ρ' t rv
            refine ⟨frz t, ?_⟩
            simp only [ulR] at p
            split at p
            · rename_i m2 e2
              obtain ⟨t2, tv2⟩ := ulM_ok rfl q1 hr t (frz t) e2
              exact p v _ ρ' t2 (RepV.monoV tv2 (Ext.refl _) rv)
            · exact p.elim
          | ex c2 m1 =>
            rw [eo] at p
            intro cls H' ρ' t em
            exact p cls H' ρ' ⟨t.ext, TX.into q1 (by simp [Sft]) t.tx, t.mem⟩ em
          | bad => rw [eo] at p; exact p.elim
        | _ => cases el
      · exact plain p
    · exact plain p
  · exact plain p
/-! ### walks of a locked dict -/
def fdcU (μ : Mem) : U → Option (List (Key × U))
  | .ref r => match μ[r]? with
    | some (.fdc kus) => some kus
    | some (.dct _) => none
    | some (.lst _) => none
    | some (.dtt _) => none
    | some (.fdt _) => none
    | some (.obj _ _) => none
    | none => none
  | _ => none
theorem fdcU_ok {K : PySem.W.Frag} {H : Hp} {ρ : List Addr} {μ : Mem} (hm : RepM K H ρ μ) {u : U} {v : V} {kus : List (Key × U)} (r : RepV K H ρ u v) (e : fdcU μ u = some kus) : ∃ a o kvs, v = .ref a ∧ H a = some (.frz o (.dK kvs)) ∧ kvs.map (·.1) = kus.map (·.1) ∧ RepVs K H ρ (kus.map (·.2)) (kvs.map (·.2)) := by
  cases r with
  | ref hr =>
    obtain ⟨c, hc, rc⟩ := hm.at hr
    simp only [fdcU, hc] at e
    cases c with
    | fdc us => cases e; obtain ⟨o, kvs, a, b, c⟩ := rc; exact ⟨_, o, kvs, rfl, a, b, c⟩
    | _ => cases e
  | _ => cases e
theorem kv_at {K : PySem.W.Frag} {H : Hp} {ρ : List Addr} {kus : List (Key × U)} {kvs : List (Key × V)} (h : kvs.map (·.1) = kus.map (·.1)) (r : RepVs K H ρ (kus.map (·.2)) (kvs.map (·.2))) {i : Nat} {k : Key} {v : V} (e : kvs[i]? = some (k, v)) : ∃ u, kus[i]? = some (k, u) ∧ RepV K H ρ u v := by
  have hl : kvs.length = kus.length := by simpa using congrArg List.length h
  have hi : i < kus.length := by rw [← hl]; exact (List.getElem?_eq_some_iff.mp e).1
  have e1 : (kus.map (·.1))[i]? = some k := by rw [← h, List.getElem?_map, e]; rfl
  rw [List.getElem?_map, List.getElem?_eq_getElem hi] at e1
  have e2 : (kus.map (·.2))[i]? = some kus[i].2 := by rw [List.getElem?_map, List.getElem?_eq_getElem hi]; rfl
  obtain ⟨v', a1, a2⟩ := r.get e2
  rw [List.getElem?_map, e] at a1
  cases a1
  simp at e1
  exact ⟨kus[i].2, by rw [List.getElem?_eq_getElem hi, ← e1], a2⟩
theorem rep_kU {K : PySem.W.Frag} {H : Hp} {ρ : List Addr} {k : Key} (hk : keyOk k = true) : RepV K H ρ (kU k) (kV k) := by
  cases k with
  | inl i => exact .int
  | inr x => exact .str hk
def itemsU (kus : List (Key × U)) : List U := kus.map fun p => .tup [kU p.1, p.2]
def keysU (kus : List (Key × U)) : List U := kus.map fun p => kU p.1
def valsU (kus : List (Key × U)) : List U := kus.map fun p => p.2
def ksOk (kus : List (Key × U)) : Bool := kus.all fun p => keyOk p.1
theorem it_items {K : PySem.W.Frag} {H : Hp} {ρ : List Addr} {d : Addr} {o : Obj} {kvs : List (Key × V)} {kus : List (Key × U)} (hd : H d = some (.frz o (.dK kvs))) (hk : kvs.map (·.1) = kus.map (·.1)) (hr : RepVs K H ρ (kus.map (·.2)) (kvs.map (·.2))) (ok : ksOk kus = true) :
    ItOk K ρ H (.seq (itemsU kus)) (Iti d o kvs) := by
  intro i ρ' H' μ' ex tx hm
  simp only [itemAt]
  have hl : kvs.length = kus.length := by simpa using congrArg List.length hk
  have hd' := tx.2 _ _ _ hd
  have hr' := hr.mono tx ex
  by_cases hi : i < kus.length
  · have e : (itemsU kus)[i]? = some (.tup [kU kus[i].1, kus[i].2]) := by simp [itemsU, hi]
    rw [e]
    refine ⟨⟨hd', by omega⟩, ?_⟩
    rintro x H'' ⟨T, k, v, q1, rfl, q2, rfl⟩
    obtain ⟨u, a1, a2⟩ := kv_at hk hr' q1
    rw [List.getElem?_eq_getElem hi] at a1
    have a3 : kus[i] = (k, u) := Option.some.inj a1
    have ek : keyOk k = true := by
      have := List.all_eq_true.mp ok kus[i] (List.getElem_mem hi)
      rw [a3] at this
      exact this
    rw [a3]
    exact ⟨Stp.temp hm q2, newT q2 (.cons (rep_kU ek) (.one a2))⟩
  · have e : (itemsU kus)[i]? = none := by simp [itemsU]; omega
    rw [e]
    exact ⟨hd', by omega⟩
theorem it_keys {K : PySem.W.Frag} {H : Hp} {ρ : List Addr} {d : Addr} {o : Obj} {kvs : List (Key × V)} {kus : List (Key × U)} (hd : H d = some (.frz o (.dK kvs))) (hk : kvs.map (·.1) = kus.map (·.1)) (hr : RepVs K H ρ (kus.map (·.2)) (kvs.map (·.2))) (ok : ksOk kus = true) :
    ItOk K ρ H (.seq (keysU kus)) (Itk d o kvs) := by
  intro i ρ' H' μ' ex tx hm
  simp only [itemAt]
  have hl : kvs.length = kus.length := by simpa using congrArg List.length hk
  have hd' := tx.2 _ _ _ hd
  have hr' := hr.mono tx ex
  by_cases hi : i < kus.length
  · have e : (keysU kus)[i]? = some (kU kus[i].1) := by simp [keysU, hi]
    rw [e]
    refine ⟨⟨hd', by omega⟩, ?_⟩
    rintro x H'' ⟨rfl, k, v, q1, rfl⟩
    obtain ⟨u, a1, a2⟩ := kv_at hk hr' q1
    rw [List.getElem?_eq_getElem hi] at a1
    have a3 : kus[i] = (k, u) := Option.some.inj a1
    have ek : keyOk k = true := by
      have := List.all_eq_true.mp ok kus[i] (List.getElem_mem hi)
      rw [a3] at this
      exact this
    rw [a3]
    exact ⟨Stp.refl hm, rep_kU ek⟩
  · have e : (keysU kus)[i]? = none := by simp [keysU]; omega
    rw [e]
    exact ⟨hd', by omega⟩
theorem it_vals {K : PySem.W.Frag} {H : Hp} {ρ : List Addr} {d : Addr} {o : Obj} {kvs : List (Key × V)} {kus : List (Key × U)} (hd : H d = some (.frz o (.dK kvs))) (hk : kvs.map (·.1) = kus.map (·.1)) (hr : RepVs K H ρ (kus.map (·.2)) (kvs.map (·.2))) :
    ItOk K ρ H (.seq (valsU kus)) (Itd d o kvs) := by
  intro i ρ' H' μ' ex tx hm
  simp only [itemAt]
  have hl : kvs.length = kus.length := by simpa using congrArg List.length hk
  have hd' := tx.2 _ _ _ hd
  have hr' := hr.mono tx ex
  by_cases hi : i < kus.length
  · have e : (valsU kus)[i]? = some (kus[i].2) := by simp [valsU, hi]
    rw [e]
    refine ⟨⟨hd', by omega⟩, ?_⟩
    rintro x H'' ⟨rfl, k, q1⟩
    obtain ⟨u, a1, a2⟩ := kv_at hk hr' q1
    rw [List.getElem?_eq_getElem hi] at a1
    have a3 : kus[i] = (k, u) := Option.some.inj a1
    rw [a3]
    exact ⟨Stp.refl hm, a2⟩
  · have e : (valsU kus)[i]? = none := by simp [valsU]; omega
    rw [e]
    exact ⟨hd', by omega⟩
def iItems (a : FE) : FI := fun s μ => (a s μ).bind fun u μ1 => match fdcU μ1 u with
  | some kus => if ksOk kus = true then .ok (.seq (itemsU kus)) μ1 else .bad
  | none => .bad
theorem ci_items {e : Expr} {me : FE} {apos cpos tpos : Pos} {elts : List Expr} {kk : Nat} (he : CE X W e me) (hbase : attributeBase e "items" X.env (eval e X.env) = eval e X.env := by rfl) (hline : (apos.endLine == cpos.line) = true := by rfl) :
    CI X W (.Tuple elts kk tpos) (.Call (.Attribute e "items" apos) [] [] cpos) (Dg.iItems me) := by
  intro ρ μ s σ H R hs hm h
  refine ⟨_, pi_items pe_w hbase hline, ?_⟩
  refine he ρ μ s σ H _ hs hm (h.bind fun u μ1 x H1 ρ1 t1 r1 h1 => ?_)
  split at h1
  · rename_i kus ek
    split at h1
    · rename_i ok
      obtain ⟨a, o, kvs, rfl, q1, q2, q3⟩ := fdcU_ok t1.mem r1 ek
      exact ⟨a, o, kvs, rfl, q1, h1.ok (Stp.refl t1.mem) (it_items q1 q2 q3 ok)⟩
    · exact h1.elim
  · exact h1.elim
def iVals (a : FE) : FI := fun s μ => (a s μ).bind fun u μ1 => match fdcU μ1 u with
  | some kus => .ok (.seq (valsU kus)) μ1
  | none => .bad
theorem ci_vals {tg e : Expr} {me : FE} {apos cpos : Pos} (he : CE X W e me) (hbase : attributeBase e "values" X.env (eval e X.env) = eval e X.env := by rfl) (hline : (apos.endLine == cpos.line) = true := by rfl) :
    CI X W tg (.Call (.Attribute e "values" apos) [] [] cpos) (Dg.iVals me) := by
  intro ρ μ s σ H R hs hm h
  refine ⟨_, pi_values pe_w hbase hline, ?_⟩
  refine he ρ μ s σ H _ hs hm (h.bind fun u μ1 x H1 ρ1 t1 r1 h1 => ?_)
  split at h1
  · rename_i kus ek
    obtain ⟨a, o, kvs, rfl, q1, q2, q3⟩ := fdcU_ok t1.mem r1 ek
    exact ⟨a, o, kvs, rfl, q1, h1.ok (Stp.refl t1.mem) (it_vals q1 q2 q3)⟩
  · exact h1.elim
/-- for k in d -/
def iKeys (a : FE) : FI := fun s μ => (a s μ).bind fun u μ1 => match fdcU μ1 u with
  | some kus => if ksOk kus = true then .ok (.seq (keysU kus)) μ1 else .bad
  | none => .bad
theorem ci_keys {tg e : Expr} {me : FE} (he : CE X W e me) : CI X W tg e (Dg.iKeys me) := by
  intro ρ μ s σ H R hs hm h
  refine ⟨_, pi_keys pe_w, ?_⟩
  refine he ρ μ s σ H _ hs hm (h.bind fun u μ1 x H1 ρ1 t1 r1 h1 => ?_)
  split at h1
  · rename_i kus ek
    split at h1
    · rename_i ok
      obtain ⟨a, o, kvs, rfl, q1, q2, q3⟩ := fdcU_ok t1.mem r1 ek
      exact ⟨a, o, rfl, .inl ⟨kvs, q1, h1.ok (Stp.refl t1.mem) (it_keys q1 q2 q3 ok)⟩⟩
    · exact h1.elim
  · exact h1.elim
/-! ### d.get(k, x) -/
def rdU (μ : Mem) : U → Option (List (Key × U))
  | .ref r => match μ[r]? with
    | some (.fdc kus) => some kus
    | some (.dct kus) => some kus
    | some (.lst _) => none
    | some (.dtt _) => none
    | some (.fdt _) => none
    | some (.obj _ _) => none
    | none => none
  | _ => none
theorem rdU_ok {K : PySem.W.Frag} {H : Hp} {ρ : List Addr} {μ : Mem} (hm : RepM K H ρ μ) {u : U} {v : V} {kus : List (Key × U)} (r : RepV K H ρ u v) (e : rdU μ u = some kus) : ∃ a kvs, v = .ref a ∧ Rd H a (.dK kvs) ∧ RepKV K H ρ kus kvs := by
  cases r with
  | ref hr =>
    obtain ⟨c, hc, rc⟩ := hm.at hr
    simp only [rdU, hc] at e
    cases c with
    | fdc us => cases e; obtain ⟨o, kvs, a, b, c⟩ := rc; exact ⟨_, kvs, rfl, .inr ⟨o, a⟩, b, c⟩
    | dct us => cases e; obtain ⟨kvs, a, b, c⟩ := rc; exact ⟨_, kvs, rfl, .inl a, b, c⟩
    | _ => cases e
  | _ => cases e
def fGet (d a b : FE) : FE := fun s μ => (d s μ).bind fun x μ1 => match rdU μ1 x with
  | none => .bad
  | some _ => (a s μ1).bind fun y μ2 => (b s μ2).bind fun z μ3 => match rdU μ3 x, keyU y with
    | some kus, some k => .ok ((valU kus k).getD z) μ3
    | _, _ => .bad
theorem ce_get {d e f : Expr} {md me mf : FE} {apos cpos : Pos} (G : Good X W (k + 40)) (hd : CE X W d md) (he : CE X W e me) (hf : CE X W f mf) (m : M2 X d "get" apos e f cpos) :
    CE X W (.Call (.Attribute d "get" apos) [e, f] [] cpos) (fGet md me mf) := by
  intro ρ μ s σ H Q hs hm h
  refine ⟨_, pe_dget2 G.hu pe_w pe_w pe_w m, ?_⟩
  refine hd ρ μ s σ H _ hs hm (h.bind fun x μ1 xv H1 ρ1 t1 r1 h1 => ?_)
  cases ex : rdU μ1 x with
  | none => rw [ex] at h1; exact h1.elim
  | some kus0 =>
    rw [ex] at h1
    obtain ⟨a, kvs, rfl, q1, _⟩ := rdU_ok t1.mem r1 ex
    refine ⟨a, rfl, ?_, ?_⟩
    · exact .inl ⟨kvs, q1⟩
    · refine he ρ1 μ1 s σ H1 _ (t1.s hs) t1.mem (h1.bind fun y μ2 yv H2 ρ2 t2 r2 h2 => ?_)
      refine hf ρ2 μ2 s σ H2 _ (t2.s (t1.s hs)) t2.mem (h2.bind fun z μ3 zv H3 ρ3 t3 r3 h3 => ?_)
      split at h3
      · rename_i kus k' e1 e2
        obtain ⟨a', kvs', ea, q2, rk⟩ := rdU_ok t3.mem (t3.v (t2.v r1)) e1
        cases ea
        refine ⟨valV kvs' k', .inl ⟨kvs', k', q2, keyU_ok (t3.v r2) e2, rfl⟩, ?_⟩
        have hv := rk.val (k := k')
        cases ev : valU kus k' with
        | none =>
          rw [ev] at h3
          rw [hv.2 ev]
          exact h3.ok (Stp.refl t3.mem) r3
        | some u =>
          rw [ev] at h3
          obtain ⟨v, b1, b2⟩ := hv.1 u ev
          rw [b1]
          exact h3.ok (Stp.refl t3.mem) b2
      · exact h3.elim
end
end Dg
/-! Dg15: try .. except C as e: any suite that asks e by isinstance alone. -/
namespace Dg
open PySem PySem.Spec PyProof.Rows L2 RZ
theorem fa_nil {α : Type} {P : α → Prop} : ∀ y ∈ ([] : List α), P y := fun y hy => nomatch hy
theorem fa_cons {α : Type} {P : α → Prop} {x : α} {l : List α} (h : P x) (r : ∀ y ∈ l, P y) : ∀ y ∈ x :: l, P y := by
  intro y hy
  rcases List.mem_cons.mp hy with rfl | hy
  · exact h
  · exact r y hy
/-! ### isinstance(e, (A, B)) -/
theorem call_isET {X : Cx} {a D : Addr} {oe : Obj} {pn : List (Addr × Obj)} (C : ExcC X.K D) (hz : Zc (.ref D) none oe) (hf : ∃ vs, oe.data = .fields vs) :
    CallR (X.suite a ((a, oe) :: pn)) (.builtin "isinstance") (fun xs H Q => ∃ (T : Addr) (cs : List Addr) (b : Bool), xs = [.ref a, .ref T] ∧ H T = some (.tup (cs.map V.ref)) ∧ PySem.W.kitAny X.K (.ref D) (cs.map Value.ref) = some b ∧ Q (.bl b) H) := by
  intro pins s σ H xs us Q I r h
  obtain ⟨T, cs, b, rfl, hT, e, q⟩ := h
  cases r with
  | cons rx rr =>
    cases rr with
    | cons rt rr =>
      cases rr
      cases rx
      cases rt
      obtain ⟨hget, _⟩ := I.pin (a, oe) (List.mem_append.mpr (.inl List.mem_cons_self))
      obtain ⟨vs, hv⟩ := hf
      have J : PySem.W.InstAt s.heap a oe D none := by
        obtain ⟨oc, od, oda, osl⟩ := oe
        obtain ⟨h1, h2⟩ := hz
        dsimp only at h1 h2 hv
        subst h1 h2 hv
        exact ⟨hget, rfl, rfl, trivial⟩
      obtain ⟨hlen, its, rv, o, h1, h2, n, h3⟩ := (show ObjOk X.prog X.w H s.heap T (.tup (cs.map V.ref)) from I.hok T _ hT)
      have e3 : its = cs.map Value.ref := by
        clear e hT h3 q h1 h2 hlen
        induction cs generalizing its with
        | nil => cases rv; rfl
        | cons c cs ih =>
          cases rv with
          | cons r1 r2 =>
            cases r1
            rw [ih _ r2]
            rfl
      subst e3
      obtain ⟨oc, od, dt, sl⟩ := o
      simp only at h2 h3
      subst h2 h3
      exact PySem.W.kia_tup (PySem.W.handS_kitx_exc C.hg C.hk C.hs C.hd C.ha C.hn C.ht C.hm) I.kIn J h1 e (fun z => nomatch z) fun tk => ⟨.bl b, H, I.kept (t' := tk) fun _ _ z => z, rfl, q⟩
/-- the class x among the classes ys, or not -/
def IsxT (K : PySem.W.Frag) (mg : Str → Option Value) (x : Str) (ys : List Str) (b : Bool) : Prop := ∃ (D : Addr) (Cs : List Addr), mg x = some (.ref D) ∧ ExcC K D ∧ Paired (fun (y : Str) (C : Addr) => mg y = some (.ref C)) ys Cs ∧ PySem.W.kitAny K (.ref D) (Cs.map Value.ref) = some b
theorem isxT_one {K : PySem.W.Frag} {mg : Str → Option Value} {x y : Str} {b : Bool} (h : Isx K mg x y b) : IsxT K mg x [y] b := by
  obtain ⟨D, C, h1, h2, h3, h4⟩ := h
  refine ⟨D, [C], h1, h3, .cons h2 .nil, ?_⟩
  show PySem.W.kitAny K (.ref D) [.ref C] = some b
  cases b with
  | true => exact kitAny_cons h4 (fun z => nomatch z) (fun _ => rfl)
  | false => exact kitAny_cons h4 (fun _ => rfl) (fun z => nomatch z)
theorem isxT_cons {K : PySem.W.Frag} {mg : Str → Option Value} {x y : Str} {b c : Bool} {ys : List Str} (h : Isx K mg x y b) (r : IsxT K mg x ys c) : IsxT K mg x (y :: ys) (b || c) := by
  obtain ⟨D, C, h1, h2, h3, h4⟩ := h
  obtain ⟨D2, Cs, r1, r2, r3, r4⟩ := r
  rw [h1] at r1
  cases r1
  refine ⟨D, C :: Cs, h1, h3, .cons h2 r3, ?_⟩
  show PySem.W.kitAny K (.ref D) (.ref C :: Cs.map Value.ref) = some (b || c)
  cases b with
  | true => exact kitAny_cons h4 (fun z => nomatch z) (fun _ => rfl)
  | false => exact kitAny_cons h4 (fun _ => by simpa using r4) (fun z => nomatch z)
theorem isxT_tab0 {K : PySem.W.Frag} {mg : Str → Option Value} {ys : List Str} : ∀ q ∈ ([] : List (Str × Bool)), IsxT K mg q.1 ys q.2 := fun q hq => nomatch hq
theorem isxT_tab {K : PySem.W.Frag} {mg : Str → Option Value} {x : Str} {ys : List Str} {b : Bool} {l : List (Str × Bool)} (h : IsxT K mg x ys b) (r : ∀ q ∈ l, IsxT K mg q.1 ys q.2) : ∀ q ∈ ((x, b) :: l), IsxT K mg q.1 ys q.2 := by
  intro q hq
  rcases List.mem_cons.mp hq with rfl | hq
  · exact h
  · exact r q hq
section
variable {X : Cx} {W : WX} {k i : Nat} {a : Addr}
/-- names of classes as arguments of a display -/
def names (ys : List Str) (ps : List Pos) : List Expr := (ys.zip ps).map fun p => Expr.Name p.1 p.2
theorem pa_names {X : Cx} {ys : List Str} {ps : List Pos} {Cs : List Addr} (hl : ys.length = ps.length) (hp : Paired (fun (y : Str) (C : Addr) => X.mg y = some (.ref C)) ys Cs) (hg : ∀ y ∈ ys, Gl X y) (hd : ∀ y ∈ ys, (y == ("__debug__" : Str)) = false)
    (hse : ∀ (y : Str) (p : Pos) (es : List Expr), starEach (.Name y p :: es) X.env = (false, eval (.Name y p) X.env) :: starEach es X.env) :
    ∃ t, PA X (names ys ps) t ∧ ∀ σ H (Q : List V → Hp → Prop), Q (Cs.map V.ref) H → t σ H Q := by
  induction hp generalizing ps with
  | nil => cases ps with
    | nil => exact ⟨_, pa_nil, fun σ H Q q => q⟩
    | cons p ps => cases hl
  | @cons y C ys Cs h r ih =>
    cases ps with
    | nil => cases hl
    | cons p ps =>
      obtain ⟨t, h1, h2⟩ := ih (ps := ps) (by simpa using hl) (fun y hy => hg y (by simp [hy])) (fun y hy => hd y (by simp [hy]))
      refine ⟨_, pa_cons (pe_glob (hg y (by simp)) h (v := .ref C) rfl (hd y (by simp))) h1 (hse _ _ _), fun σ H Q q => ?_⟩
      exact h2 σ H _ q
theorem at_isXT {D : Addr} {oe : Obj} {pn : List (Addr × Obj)} {n c : Str} {ys : List Str} {ps : List Pos} {tab : List (Str × Bool)} {p p1 tpos pos : Pos} {kk : Nat} (ht : ∀ q ∈ tab, IsxT X.K X.mg q.1 ys q.2) (hc : X.mg c = some (.ref D)) (hz : Zc (.ref D) none oe) (hf : ∃ vs, oe.data = .fields vs)
    (hN : X.N[i]? = some n) (hv : Vis X.env.scope n) (hl : ys.length = ps.length) (hgy : ∀ y ∈ ys, Gl X y) (hdy : ∀ y ∈ ys, (y == ("__debug__" : Str)) = false) (hg : Gl X "isinstance") (hm0 : X.mg "isinstance" = none) (hlen : ys.length ≤ 100)
    (hd : (n == ("__debug__" : Str)) = false := by decide) (hcd : (n == ("__classdict__" : Str)) = false := by decide)
    (hse : ∀ (y : Str) (p : Pos) (es : List Expr), starEach (.Name y p :: es) (X.suite a ((a, oe) :: pn)).env = (false, eval (.Name y p) (X.suite a ((a, oe) :: pn)).env) :: starEach es (X.suite a ((a, oe) :: pn)).env)
    (he : starEach [.Name n p1, .Tuple (names ys ps) kk tpos] (X.suite a ((a, oe) :: pn)).env = (false, eval (.Name n p1) (X.suite a ((a, oe) :: pn)).env) :: starEach [.Tuple (names ys ps) kk tpos] (X.suite a ((a, oe) :: pn)).env := by rfl)
    (he2 : starEach [.Tuple (names ys ps) kk tpos] (X.suite a ((a, oe) :: pn)).env = (false, eval (.Tuple (names ys ps) kk tpos) (X.suite a ((a, oe) :: pn)).env) :: starEach [] (X.suite a ((a, oe) :: pn)).env := by rfl)
    (hpl : (backTo pos (starEach [.Tuple (names ys ps) kk tpos] (X.suite a ((a, oe) :: pn)).env)).any (·.1) = false := by rfl) :
    CEat (X.suite a ((a, oe) :: pn)) W i a (.Call (.Name "isinstance" p) [.Name n p1, .Tuple (names ys ps) kk tpos] [] pos) (fIsX tab c) := by
  unfold fIsX
  cases hlk : tab.lookup c with
  | none => exact fun ρ μ s σ H Q _ _ _ q => q.elim
  | some b =>
    obtain ⟨D2, Cs, e1, e3, e4, e5⟩ := ht (c, b) (lookup_mem hlk)
    simp only at e1 e3 e4 e5
    rw [hc] at e1
    cases e1
    intro ρ μ s σ H Q hi hs hm h
    have hv1 : PE (X.suite a ((a, oe) :: pn)) (.Name n p1) (tVar i) := pe_var hN hv hd hcd
    obtain ⟨t, g1, g2⟩ := pa_names (X := X.suite a ((a, oe) :: pn)) hl e4 hgy hdy hse
    refine ⟨_, pe_callB (call_isET e3 hz hf) hg hm0 bt_isinstance (pa_cons hv1 (pa_cons (pe_tup g1) pa_nil he2) he) (he := he) (hpl := hpl), ?_⟩
    refine ⟨.ref a, hi, ?_⟩
    refine g2 σ H _ ⟨?_, fun T np => ?_⟩
    · have := Paired.length e4
      simp only [List.length_map]
      rw [← this]
      exact lim_le (by simp [lim]; omega)
    · exact ⟨T, Cs, b, rfl, upd_same, e5, h.ok (Stp.temp hm np) .bl⟩
/-! ### tests where slot i holds a -/
def CTat (X : Cx) (W : WX) (i : Nat) (a : Addr) (e : Expr) (m : FT) : Prop := ∀ ρ μ s σ H Q, σ[i]? = some (some (.ref a)) → RepS X.K H ρ s σ → RepM X.K H ρ μ → Post X W σ relB ρ H (m s μ) Q → WT X e σ H Q
def CWat (X : Cx) (W : WX) (i : Nat) (a : Addr) (e : Expr) (m : FT) : Prop := ∀ ρ μ s σ H Q, σ[i]? = some (some (.ref a)) → RepS X.K H ρ s σ → RepM X.K H ρ μ → Post X W σ relB ρ H (m s μ) Q → WW X e σ H Q
theorem tat_of {e : Expr} {m : FT} (h : CT X W e m) : CTat X W i a e m := fun ρ μ s σ H Q _ hs hm q => h ρ μ s σ H Q hs hm q
theorem tat_val {e : Expr} {ma : FE} (ha : CEat X W i a e ma) (he : ∀ whole, isTrue e X.env whole = (do let v ← whole; standAt e.pos; holding [v] (truthy v)) := by intro _; rfl) : CTat X W i a e (tst ma) := by
  intro ρ μ s σ H Q hi hs hm h
  refine ⟨_, pt_truth pe_w he, ?_⟩
  refine ha ρ μ s σ H _ hi hs hm (h.bind fun u μ1 x H1 ρ1 t1 r1 h1 => ?_)
  cases e : truU μ1 u with
  | none => rw [e] at h1; exact h1.elim
  | some b =>
    rw [e] at h1
    exact ⟨b, truU_ok t1.mem r1 e, h1.ok (Stp.refl t1.mem) rfl⟩
theorem tat_not {e : Expr} {ta : FT} {pos : Pos} (ha : CTat X W i a e ta) : CTat X W i a (.UnaryOp .Not e pos) (tNt ta) := by
  intro ρ μ s σ H Q hi hs hm h
  refine ⟨_, pt_not pt_w, ?_⟩
  refine ha ρ μ s σ H _ hi hs hm (h.bind fun b μ1 x H1 ρ1 t1 r1 h1 => ?_)
  cases r1
  exact h1.ok (Stp.refl t1.mem) rfl
theorem CWat.ct {e : Expr} {m : FT} (h : CWat X W i a e m) : CTat X W i a e m := fun ρ μ s σ H Q hi hs hm p => by
  obtain ⟨t, h1, h2⟩ := h ρ μ s σ H Q hi hs hm p
  exact ⟨t, h1.pt, h2⟩
theorem wat_and1 {e : Expr} {ta : FT} {pos : Pos} (ha : CTat X W i a e ta) : CWat X W i a (.BoolOp .And [e] pos) ta := fun ρ μ s σ H Q hi hs hm p => ⟨_, pw_and1 pt_w, ha ρ μ s σ H Q hi hs hm p⟩
theorem wat_or1 {e : Expr} {ta : FT} {pos : Pos} (ha : CTat X W i a e ta) : CWat X W i a (.BoolOp .Or [e] pos) ta := fun ρ μ s σ H Q hi hs hm p => ⟨_, pw_or1 pt_w, ha ρ μ s σ H Q hi hs hm p⟩
theorem wat_and {e b : Expr} {rest : List Expr} {ta tb : FT} {pos : Pos} (ha : CTat X W i a e ta) (hb : CWat X W i a (.BoolOp .And (b :: rest) pos) tb) : CWat X W i a (.BoolOp .And (e :: b :: rest) pos) (tAn ta tb) := by
  intro ρ μ s σ H Q hi hs hm h
  refine ⟨_, pw_and pt_w pw_w, ?_⟩
  refine ha ρ μ s σ H _ hi hs hm (h.bind fun b μ1 x H1 ρ1 t1 r1 h1 => ?_)
  cases r1
  cases b with
  | true => exact iteT (hb ρ1 μ1 s σ H1 Q hi (t1.s hs) t1.mem h1)
  | false => exact iteF (h1.ok (Stp.refl t1.mem) rfl)
theorem wat_or {e b : Expr} {rest : List Expr} {ta tb : FT} {pos : Pos} (ha : CTat X W i a e ta) (hb : CWat X W i a (.BoolOp .Or (b :: rest) pos) tb) : CWat X W i a (.BoolOp .Or (e :: b :: rest) pos) (tOr' ta tb) := by
  intro ρ μ s σ H Q hi hs hm h
  refine ⟨_, pw_or pt_w pw_w, ?_⟩
  refine ha ρ μ s σ H _ hi hs hm (h.bind fun b μ1 x H1 ρ1 t1 r1 h1 => ?_)
  cases r1
  cases b with
  | true => exact iteT (h1.ok (Stp.refl t1.mem) rfl)
  | false => exact iteF (hb ρ1 μ1 s σ H1 Q hi (t1.s hs) t1.mem h1)
/-! ### statements where slot i holds a, and goes on to hold it -/
def PostSat (X : Cx) (W : WX) (i : Nat) (a : Addr) (ρ : List Addr) (H : Hp) (o : Out) (D : Ends) : Prop := match o with
  | .nx s' μ' => ∀ σ' H' ρ', Stp X.K ρ H ρ' H' μ' → RepS X.K H' ρ' s' σ' → σ'[i]? = some (some (.ref a)) → D.nx σ' H'
  | o => PostS X W ρ H o D
theorem PostSat.from {ρ ρ1 : List Addr} {H H1 : Hp} {μ1 : Mem} {o : Out} {D : Ends} (t : Stp X.K ρ H ρ1 H1 μ1) (h : PostSat X W i a ρ H o D) : PostSat X W i a ρ1 H1 o D := by
  cases o with
  | nx s m => exact fun σ' H' ρ' t' r e => h σ' H' ρ' (t.trans t') r e
  | rt u m => exact PostS.from (W := W) (D := D) t (o := .rt u m) h
  | bk s m => exact PostS.from (W := W) (D := D) t (o := .bk s m) h
  | ct s m => exact PostS.from (W := W) (D := D) t (o := .ct s m) h
  | ex c s m => exact PostS.from (W := W) (D := D) t (o := .ex c s m) h
  | bad => exact h
theorem PostSat.bind {α β : Type} {σ : L2.St} {rel : RelT α β} {ρ : List Addr} {H : Hp} {r : Res α} {s : Slots} {k : α → Mem → Out} {D : Ends} {Q1 : β → Hp → Prop} (hs : RepS X.K H ρ s σ)
    (h : PostSat X W i a ρ H (ofR r s k) D) (hk : ∀ b μ1 x H1 ρ1, Stp X.K ρ H ρ1 H1 μ1 → rel X.K H1 ρ1 b x → PostSat X W i a ρ1 H1 (k b μ1) D → Q1 x H1) : Post X W σ rel ρ H r Q1 := by
  cases r with
  | ok b m =>
    intro v H' ρ' t q
    exact hk b m v H' ρ' t q (PostSat.from t h)
  | ex c m =>
    have h' : PostS X W ρ H (.ex c s m) D := h
    exact fun cls H' ρ' t e => h' cls σ H' ρ' t (t.s hs) e
  | bad => exact h
def CSat (X : Cx) (W : WX) (i : Nat) (a : Addr) (st : Stmt) (m : FS) : Prop := ∀ ρ μ s σ H D, σ[i]? = some (some (.ref a)) → RepS X.K H ρ s σ → RepM X.K H ρ μ → PostSat X W i a ρ H (m s μ) D → WS X st D σ H
def CSsat (X : Cx) (W : WX) (i : Nat) (a : Addr) (st : List Stmt) (m : FS) : Prop := ∀ ρ μ s σ H D, σ[i]? = some (some (.ref a)) → RepS X.K H ρ s σ → RepM X.K H ρ μ → PostSat X W i a ρ H (m s μ) D → WSs X st D σ H
theorem ssat_nil : CSsat X W i a [] sNext := fun ρ μ s σ H D hi hs hm h => ⟨_, pss_nil, h σ H ρ (Stp.refl hm) hs hi⟩
theorem ssat_one {st : Stmt} {m : FS} (ha : CSat X W i a st m) : CSsat X W i a [st] m := fun ρ μ s σ H D hi hs hm h => ⟨_, pss_one ps_w, ha ρ μ s σ H D hi hs hm h⟩
theorem ssat_cons {st : Stmt} {rest : List Stmt} {m n : FS} (ha : CSat X W i a st m) (hb : CSsat X W i a rest n) : CSsat X W i a (st :: rest) (sSeq m n) := by
  intro ρ μ s σ H D hi hs hm h
  refine ⟨_, pss_cons ps_w pss_w, ?_⟩
  refine ha ρ μ s σ H _ hi hs hm ?_
  unfold sSeq at h
  cases e : m s μ with
  | nx s1 μ1 =>
    rw [e] at h
    intro σ' H' ρ' t r hi'
    exact hb ρ' μ1 s1 σ' H' D hi' r t.mem (PostSat.from t h)
  | rt u m => rw [e] at h; exact h
  | bk u m => rw [e] at h; exact h
  | ct u m => rw [e] at h; exact h
  | ex c u m => rw [e] at h; exact h
  | bad => rw [e] at h; exact h
theorem sat_set {j : Nat} {x : Str} {e : Expr} {me : FE} {pos pos' : Pos} (hij : j ≠ i) (hN : X.N.Nodup) (hj : X.N[j]? = some x) (hx : Loc X.env.scope x) (he : CEat X W i a e me) (hs0 : swapsWith e (some (.Name x pos')) pos.line X.env = pure false := by rfl)
    (hf : X.fn x = true ∨ X.env.scope.names.lookup x = some .local := by first | exact .inl rfl | exact .inr rfl | assumption) : CSat X W i a (.Assign [.Name x pos'] e pos) (sAsg (.one j) me) := by
  intro ρ μ s σ H D hi hs hm h
  refine ⟨_, ps_set hN hj hx pe_w hs0 hf, ?_⟩
  exact he ρ μ s σ H _ hi hs hm (PostSat.bind hs h fun u μ1 x H1 ρ1 t1 r1 h1 => h1 _ H1 ρ1 (Stp.refl t1.mem) ((t1.s hs).set r1) (by rw [List.getElem?_set_ne hij]; exact hi))
theorem sat_ret {e : Expr} {me : FE} {pos : Pos} (he : CEat X W i a e me) : CSat X W i a (.Return (some e) pos) (sRet me) := by
  intro ρ μ s σ H D hi hs hm h
  refine ⟨_, ps_ret pe_w, ?_⟩
  exact he ρ μ s σ H _ hi hs hm (PostSat.bind hs h fun u μ1 x H1 ρ1 t1 r1 h1 => h1 x H1 ρ1 (Stp.refl t1.mem) r1)
theorem sat_expr {e : Expr} {me : FE} {pos : Pos} (he : CEat X W i a e me) (hs0 : swapsWith e none pos.line X.env = pure false := by rfl) : CSat X W i a (.Expr e pos) (sExpr me) := by
  intro ρ μ s σ H D hi hs hm h
  refine ⟨_, ps_expr pe_w hs0, ?_⟩
  exact he ρ μ s σ H _ hi hs hm (PostSat.bind hs h fun u μ1 x H1 ρ1 t1 r1 h1 => h1 _ H1 ρ1 (Stp.refl t1.mem) (t1.s hs) hi)
theorem sat_if {c : Expr} {p q : List Stmt} {tc : FT} {m n : FS} {pos : Pos} (hc : CTat X W i a c tc) (ha : CSsat X W i a p m) (hb : CSsat X W i a q n) : CSat X W i a (.If c p q pos) (sIf tc m n) := by
  intro ρ μ s σ H D hi hs hm h
  refine ⟨_, ps_if pt_w pss_w pss_w, ?_⟩
  refine hc ρ μ s σ H _ hi hs hm (PostSat.bind hs h fun b μ1 x H1 ρ1 t1 r1 h1 => ?_)
  cases r1
  cases b with
  | true => exact iteT (ha ρ1 μ1 s σ H1 D hi (t1.s hs) t1.mem h1)
  | false => exact iteF (hb ρ1 μ1 s σ H1 D hi (t1.s hs) t1.mem h1)
/-! ### the statement -/
def hideO (i : Nat) (o : Out) : Out := match o with
  | .nx s μ => .nx (s.set i none) μ
  | .bk s μ => .bk (s.set i none) μ
  | .ct s μ => .ct (s.set i none) μ
  | o => o
def sTryG (tab : List (Str × Bool)) (i : Nat) (body : FS) (ms : Str → FS) : FS := fun s μ => match body s μ with
  | .ex c s1 μ1 => match tab.lookup c with
    | some true => if i < s1.length then hideO i (ms c (s1.set i none) μ1) else .bad
    | some false => .ex c s1 μ1
    | none => .bad
  | o => o
theorem cs_tryG_end {a0 : Addr} {oe : Obj} {pn2 : List (Addr × Obj)} {b₀ : Stmt} {suite : List Stmt} {m : FS} {ρ ρ' : List Addr} {H H' : Hp} {s1 : Slots} {m1 : Mem} {σ' : L2.St} {D : Ends} (hce : CSsat (X.suite a0 ((a0, oe) :: pn2)) W i a0 (b₀ :: suite) m) (hlt : i < s1.length) (r : RepS X.K H' ρ' s1 σ') (t : Stp X.K ρ H ρ' H' m1)
    (h : PostS X W ρ H (hideO i (m (s1.set i none) m1)) D) : WSs (X.suite a0 ((a0, oe) :: pn2)) (b₀ :: suite) { nx := fun σ' H' => D.nx (σ'.set i none) H', rt := D.rt, bk := fun σ' H' => D.bk (σ'.set i none) H', ct := fun σ' H' => D.ct (σ'.set i none) H' } (σ'.set i (some (.ref a0))) H' := by
  have r2 := r.hide i (some (.ref a0))
  have hl : i < σ'.length := by rw [← r.len]; exact hlt
  have hz2 : (σ'.set i (some (V.ref a0)))[i]? = some (some (.ref a0)) := by rw [List.getElem?_set_self hl]
  have h' := PostS.from t h
  refine hce ρ' m1 _ _ H' _ hz2 r2 t.mem ?_
  cases em : m (s1.set i none) m1 with
  | nx s2 m2 =>
    rw [em] at h'
    intro σ2 H2 ρ2 t2 rs2 _
    exact h' (σ2.set i none) H2 ρ2 t2 (rs2.hide i none)
  | rt u m2 => rw [em] at h'; exact h'
  | bk s2 m2 =>
    rw [em] at h'
    intro σ2 H2 ρ2 t2 rs2
    exact h' (σ2.set i none) H2 ρ2 t2 (rs2.hide i none)
  | ct s2 m2 =>
    rw [em] at h'
    intro σ2 H2 ρ2 t2 rs2
    exact h' (σ2.set i none) H2 ρ2 t2 (rs2.hide i none)
  | ex c s2 m2 => rw [em] at h'; exact h'
  | bad => rw [em] at h'; exact h'
theorem cs_tryG {x n : Str} {body suite : List Stmt} {b₀ : Stmt} {np pos pos' : Pos} {tab : List (Str × Bool)} {mb : FS} {ms : Str → FS} (G : Good X W k) (hN : X.N.Nodup) (hi : X.N[i]? = some n) (hln : X.env.kindOf n = some .local) (hx : Exn X.K X.mg x) (hg : Gl X x)
    (htab : ∀ q ∈ tab, Exm X.K X.mg q.1 x q.2)
    (hb : ∀ (W' : WX) (pn : List (Addr × Obj)) (xe : Value → Shared → Prop), Good (X.tr pn xe) W' k → CSs (X.tr pn xe) W' body mb)
    (hsu : ∀ (c : Str) (C a : Addr) (oe : Obj) (pn : List (Addr × Obj)), (c, true) ∈ tab → X.mg c = some (.ref C) → Zc (.ref C) none oe → (∃ vs, oe.data = .fields vs) → CSsat (X.suite a ((a, oe) :: pn)) W i a (b₀ :: suite) (ms c))
    (hst : X.stack = X.env :: X.outer := by rfl) (hfr : X.env.frame = some X.env.locals := by rfl) (hdb : (x == ("__debug__" : Str)) = false := by decide) :
    CS X W (.Try body [.ExceptHandler (some (.Name x np)) (some n) (b₀ :: suite) pos'] [] [] pos) (sTryG tab i mb ms) := by
  obtain ⟨C, h1, _⟩ := hx
  intro ρ μ s σ H D hs hm h
  refine ⟨_, ps_try_as (c := .ref C) hst hfr hN hi hln ⟨hg, hdb, .inl h1⟩ (Wout := W) (tb := fun W' D σ H => ∀ pn xe, Takes (X.tr pn xe) W' → PassesOwn (model X.prog X.w) X.A X.env xe → WSs (X.tr pn xe) body D σ H)
    (ts := fun a cls d D σ H => ∀ oe pn, Zc cls d oe → (∃ vs, oe.data = .fields vs) → WSs (X.suite a ((a, oe) :: pn)) (b₀ :: suite) D σ H) G.tk
    (fun W' pn xe tk' po => ⟨fun pins s σ H D I h => pss_w.run pins s σ H D I (h pn xe tk' po)⟩) (fun a oe cls d pn hz hf => ⟨fun pins s σ H D I h => pss_w.run pins s σ H D I (h oe pn hz hf)⟩), ?_⟩
  intro pn xe tk' po
  refine hb _ pn xe (G.tr tk' po) ρ μ s σ H D hs hm ?_
  unfold sTryG at h
  cases eb : mb s μ with
  | nx s1 m1 => rw [eb] at h; exact h
  | rt u m1 => rw [eb] at h; exact h
  | bk s1 m1 => rw [eb] at h; exact h
  | ct s1 m1 => rw [eb] at h; exact h
  | bad => rw [eb] at h; exact h
  | ex c' s1 m1 =>
    rw [eb] at h
    simp only at h
    intro cls σ' H' ρ' t r em
    cases hl : tab.lookup c' with
    | none => rw [hl] at h; exact h.elim
    | some b =>
      rw [hl] at h
      obtain ⟨Cx, Cy, e1, e2, e3⟩ := htab (c', b) (lookup_mem hl)
      simp only at e1 e2 e3
      have em' : X.mg c' = some cls := em
      rw [em'] at e1
      cases e1
      rw [h1] at e2
      cases e2
      refine ⟨b, e3, ?_, ?_⟩
      · rintro rfl a0 ha oe pn2 hz hf
        simp only at h
        split at h
        · rename_i hlt
          exact cs_tryG_end (hsu c' Cx a0 oe pn2 (lookup_mem hl) em' hz hf) hlt r t h
        · exact h.elim
      · rintro rfl
        exact h _ σ' H' ρ' t r em
end
end Dg
/-! Lz: list(zip(a, b)) of two tuples. -/
namespace Lz
open PySem PySem.Spec PyProof.Rows L2 RZ PySem.W
open PySem.Sem (wp)
/-- the zip whose last pair T is still held by somebody -/
abbrev Zo (h : Heap) (z TI TO T : Addr) (f : Bool) : Prop :=
  h.get? z = some { cls := .type "zip", dict := none, data := .fields #[rawInt T, .bool f, .bool false, .ref TI, .ref TO], slots := #[] }
section
variable {prog : Program} {w : World} {A : Around} {E : Value → Shared → Prop} {s : Shared}
variable {z TI TO i1 i2 l1 l2 T : Addr} {f : Bool} {k : Nat} {xs ys : Array Value} {oT : Obj}

theorem free_out {Q : Bool → Shared → Prop} (hz : Zo s.heap z TI TO T f) (hT : s.heap.get? T = some oT)
    (h : ∀ g, Zo g z TI TO T true → Heap.SameBut z s.heap g → Q false { s with heap := g }) : wpAny (model prog w) A (Builtin.SmallTypes.ownedTupleIsFree (.ref z)) Q E s := by
  unfold Builtin.SmallTypes.ownedTupleIsFree
  refine wpAny_bind (wpAny_field hz rfl (x := rawInt T) rfl ?_)
  show wpAny _ _ (loadIfAlive ((T : Int).toNat) >>= _) _ _ _
  rw [Int.toNat_natCast]
  refine wpAny_bind (kdx_alive hT ?_)
  simp only [Option.isNone_some, Bool.false_eq_true, if_false]
  refine wpAny_bind (wpAny_field hz rfl (x := .bool f) rfl ?_)
  cases f with
  | true =>
    rw [if_neg (show ¬ ((Value.bool true != Value.bool true) = true) from Bool.false_ne_true)]
    exact wpAny_pure (h _ hz (Heap.SameBut.refl _ _))
  | false =>
    rw [if_pos (show (Value.bool false != Value.bool true) = true from rfl)]
    exact wpAny_bind (wpAny_setField_rec hz (by simp) fun g e sb => wpAny_pure (h g e sb))

theorem next_out {Q : Option Value → Shared → Prop} {x y : Value} (D : ZipApart z TI TO i1 i2 l1 l2) (hz : Zo s.heap z TI TO T f) (hT : s.heap.get? T = some oT) (hTI : IsPair s.heap TI (.ref i1) (.ref i2))
    (h1 : s.heap.IsTupleIter i1 l1 k) (h2 : s.heap.IsTupleIter i2 l2 k) (p1 : s.heap.IsTuple l1 xs) (p2 : s.heap.IsTuple l2 ys) (hx : xs[k]? = some x) (hy : ys[k]? = some y)
    (hQ : ∀ g, Zo g z TI TO T true → g.IsTupleIter i1 l1 (k + 1) → g.IsTupleIter i2 l2 (k + 1) → IsPair g s.heap.objs.size x y → g.objs.size = s.heap.objs.size + 1 →
      (∀ c o, c ≠ z → c ≠ i1 → c ≠ i2 → s.heap.get? c = some o → g.get? c = some o) → Q (some (.ref s.heap.objs.size)) { s with heap := g }) : wpAny (model prog w) A (pyNext (.ref z)) Q E s := by
  have ty : s.TypeIs (.ref z) "zip" := ⟨_, hz, rfl⟩
  unfold pyNext
  refine wpAny_bind (wpAny_attempt (wpAny_callSpecial?_slot (name := Str.ofString "__next__") ty F.slot_zip_next (wpAny_call_entry F.slot_zip_next ty F.entry_zip_next ?_ (F.args_zip_next_1 _))))
  show wpAny _ _ (field (.ref z) 2 >>= _) _ _ _
  refine wpAny_bind (wpAny_field hz rfl (x := .bool false) rfl ?_)
  show wpAny _ _ (field (.ref z) 3 >>= _) _ _ _
  refine wpAny_bind (wpAny_field hz rfl (x := .ref TI) rfl ?_)
  refine wpAny_bind (wpAny_seqItems hTI rfl ?_)
  show wpAny _ _ (Builtin.SmallTypes.ownedTupleIsFree (.ref z) >>= _) _ _ _
  refine wpAny_bind (free_out hz hT fun g zg sb => ?_)
  simp only [Bool.false_eq_true, if_false]
  refine wpAny_bind ?_
  rw [← Array.forIn_toList]
  simp only [List.forIn_cons, List.forIn_nil]
  refine wpAny_bind (wpAny_bind (wpAny_holding ?_))
  show wpAny _ _ (Builtin.SmallTypes.nextOf (.ref i1) >>= _) _ _ _
  refine wpAny_bind (nextOf_tuple_item (h1.extBut sb.extBut D.i1z) (p1.extBut sb.extBut D.l1z) hx fun g2 j1 s2 => wpAny_pure (wpAny_pure ?_))
  refine wpAny_bind (wpAny_bind (wpAny_holding ?_))
  show wpAny _ _ (Builtin.SmallTypes.nextOf (.ref i2) >>= _) _ _ _
  refine wpAny_bind (nextOf_tuple_item ((h2.extBut sb.extBut D.i2z).extBut s2.extBut D.i12.symm) ((p2.extBut sb.extBut D.l2z).extBut s2.extBut D.l2i1) hy fun g3 j2 s3 => wpAny_pure (wpAny_pure ?_))
  refine wpAny_pure ?_
  show wpAny _ _ (newTuple [x, y] >>= _) _ _ _
  refine wpAny_bind (wpAny_newTuple ?_)
  have e3 : g3.objs.size = s.heap.objs.size := by rw [s3.1, s2.1, sb.1]
  have up : ∀ c o, c ≠ z → c ≠ i1 → c ≠ i2 → s.heap.get? c = some o → g3.get? c = some o := fun c o a b d e => s3.extBut _ _ d (s2.extBut _ _ b (sb.extBut _ _ a e))
  refine wpAny_pure ⟨_, rfl, wpAny_pure ?_⟩
  show Q (some (.ref g3.objs.size)) _
  rw [e3]
  refine hQ _ ?_ ?_ ?_ ?_ ?_ fun c o a b d e => Heap.get?_push_of_some _ (up c o a b d e)
  · exact Heap.get?_push_of_some _ (s3.extBut _ _ D.i2z.symm (s2.extBut _ _ D.i1z.symm zg))
  · exact (j1.extBut s3.extBut D.i12).at fun o e => Heap.get?_push_of_some _ e
  · exact j2.at fun o e => Heap.get?_push_of_some _ e
  · rw [← e3]; exact Heap.get?_push_size _ rfl
  · rw [Heap.size_push, e3]

theorem end_out {Q : Option Value → Shared → Prop} (hh : A.handled = none) (D : ZipApart z TI TO i1 i2 l1 l2) (hz : Zo s.heap z TI TO T f) (hT : s.heap.get? T = some oT) (hTI : IsPair s.heap TI (.ref i1) (.ref i2))
    (h1 : s.heap.IsTupleIter i1 l1 k) (h2 : s.heap.IsTupleIter i2 l2 k) (p1 : s.heap.IsTuple l1 xs) (p2 : s.heap.IsTuple l2 ys) (he : xs[k]? = none ∨ ys[k]? = none)
    (hQ : ∀ g, (∀ c o, c ≠ z → c ≠ i1 → c ≠ i2 → s.heap.get? c = some o → g.get? c = some o) → Q none { s with heap := g }) : wpAny (model prog w) A (pyNext (.ref z)) Q E s := by
  have ty : s.TypeIs (.ref z) "zip" := ⟨_, hz, rfl⟩
  have fin : ∀ (g : Heap) (e : Addr), (∀ c o, c ≠ z → c ≠ i1 → c ≠ i2 → s.heap.get? c = some o → g.get? c = some o) → (∃ o, g.get? e = some o ∧ o.cls = .type "StopIteration") →
      wpAny (model prog w) A (do let b ← isInstance (.ref e) (.type "StopIteration"); if b = true then pure none else throw (.ref e)) Q E { s with heap := g } := fun g e up ⟨o, ho, hc⟩ =>
    wpAny_bind (wpAny_isInstance (T := "StopIteration") (b := true) ⟨o, ho, hc⟩ isSubtype_stop (wpAny_pure (hQ g up)))
  unfold pyNext
  refine wpAny_bind (wpAny_attempt (wpAny_callSpecial?_slot (name := Str.ofString "__next__") ty F.slot_zip_next (wpAny_call_entry F.slot_zip_next ty F.entry_zip_next ?_ (F.args_zip_next_1 _))))
  show wpAny _ _ (field (.ref z) 2 >>= _) _ _ _
  refine wpAny_bind (wpAny_field hz rfl (x := .bool false) rfl ?_)
  show wpAny _ _ (field (.ref z) 3 >>= _) _ _ _
  refine wpAny_bind (wpAny_field hz rfl (x := .ref TI) rfl ?_)
  refine wpAny_bind (wpAny_seqItems hTI rfl ?_)
  show wpAny _ _ (Builtin.SmallTypes.ownedTupleIsFree (.ref z) >>= _) _ _ _
  refine wpAny_bind (free_out hz hT fun g zg sb => ?_)
  simp only [Bool.false_eq_true, if_false]
  refine wpAny_bind ?_
  rw [← Array.forIn_toList]
  simp only [List.forIn_cons, List.forIn_nil]
  refine wpAny_bind (wpAny_bind (wpAny_holding ?_))
  show wpAny _ _ (Builtin.SmallTypes.nextOf (.ref i1) >>= _) _ _ _
  cases hx : xs[k]? with
  | none => exact wpAny_bind (nextOf_tuple_end hh (h1.extBut sb.extBut D.i1z) (p1.extBut sb.extBut D.l1z) hx fun g2 e s2 he => fin g2 e (fun c o a b d q => s2 _ _ b (sb.extBut _ _ a q)) he)
  | some x =>
    have hy : ys[k]? = none := by rcases he with h | h; rw [hx] at h; cases h; exact h
    refine wpAny_bind (nextOf_tuple_item (h1.extBut sb.extBut D.i1z) (p1.extBut sb.extBut D.l1z) hx fun g2 j1 s2 => wpAny_pure (wpAny_pure ?_))
    refine wpAny_bind (wpAny_bind (wpAny_holding ?_))
    show wpAny _ _ (Builtin.SmallTypes.nextOf (.ref i2) >>= _) _ _ _
    exact wpAny_bind (nextOf_tuple_end hh ((h2.extBut sb.extBut D.i2z).extBut s2.extBut D.i12.symm) ((p2.extBut sb.extBut D.l2z).extBut s2.extBut D.l2i1) hy fun g3 e s3 he =>
      fin g3 e (fun c o a b d q => s3 _ _ d (s2.extBut _ _ b (sb.extBut _ _ a q))) he)

/-- the state of the zip before its item k: fresh, or the pair T is held -/
def Zs (h : Heap) (z TI TO i1 i2 l1 l2 S : Addr) (k : Nat) : Prop :=
  (IsZip h z TI TO .none ∨ ∃ T f oT, Zo h z TI TO T f ∧ h.get? T = some oT ∧ T ≠ z ∧ T ≠ TO ∧ T ≠ i1 ∧ T ≠ i2 ∧ T ≠ S) ∧ IsPair h TI (.ref i1) (.ref i2) ∧ (∃ a b, IsPair h TO a b) ∧ h.IsTupleIter i1 l1 k ∧ h.IsTupleIter i2 l2 k
theorem Zs.keep {h g : Heap} {S : Addr} (D : ZipApart z TI TO i1 i2 l1 l2) (x : Zs h z TI TO i1 i2 l1 l2 S k) (hz : z ≠ S) (hI : TI ≠ S) (hO : TO ≠ S) (h1 : i1 ≠ S) (h2 : i2 ≠ S)
    (up : ∀ c o, c ≠ S → h.get? c = some o → g.get? c = some o) : Zs g z TI TO i1 i2 l1 l2 S k := by
  obtain ⟨a, b, ⟨p, q, c⟩, d, e⟩ := x
  refine ⟨?_, up _ _ hI b, ⟨p, q, up _ _ hO c⟩, d.at fun o q => up _ o h1 q, e.at fun o q => up _ o h2 q⟩
  rcases a with a | ⟨T, f, o, a, t, n1, n2, n3, n4, n5⟩
  · exact .inl (up _ _ hz a)
  · exact .inr ⟨T, f, o, up _ _ hz a, up _ _ n5 t, n1, n2, n3, n4, n5⟩
theorem next_any {S : Addr} {Q : Option Value → Shared → Prop} {x y : Value} (D : ZipApart z TI TO i1 i2 l1 l2) (st : Zs s.heap z TI TO i1 i2 l1 l2 S k) (hS : S < s.heap.objs.size)
    (p1 : s.heap.IsTuple l1 xs) (p2 : s.heap.IsTuple l2 ys) (hx : xs[k]? = some x) (hy : ys[k]? = some y)
    (hQ : ∀ g, Zs g z TI TO i1 i2 l1 l2 S (k + 1) → IsPair g s.heap.objs.size x y → g.objs.size = s.heap.objs.size + 1 →
      (∀ c o, c ≠ z → c ≠ TO → c ≠ i1 → c ≠ i2 → s.heap.get? c = some o → g.get? c = some o) → Q (some (.ref s.heap.objs.size)) { s with heap := g }) : wpAny (model prog w) A (pyNext (.ref z)) Q E s := by
  obtain ⟨a, b, ⟨p, q, c⟩, d, e⟩ := st
  have lO : TO < s.heap.objs.size := Heap.lt_size c
  have l1 : i1 < s.heap.objs.size := by obtain ⟨_, e, _⟩ := d; exact Heap.lt_size e
  have l2 : i2 < s.heap.objs.size := by obtain ⟨_, e, _⟩ := e; exact Heap.lt_size e
  rcases a with a | ⟨T, f, o, a, t, n1, n2, n3, n4, n5⟩
  · have lz : z < s.heap.objs.size := Heap.lt_size a
    exact pyNext_zipT_item D a b c d e p1 p2 hx hy fun g a1 a2 a3 a4 a5 a6 a7 => hQ g ⟨.inr ⟨_, false, _, a1, a5, Nat.ne_of_gt lz, Nat.ne_of_gt lO, Nat.ne_of_gt l1, Nat.ne_of_gt l2, Nat.ne_of_gt hS⟩, a7 _ _ D.TIz D.TITO D.TIi1 D.TIi2 b, ⟨_, _, a2⟩, a3, a4⟩ a5 a6 a7
  · exact next_out D a t b d e p1 p2 hx hy fun g a1 a3 a4 a5 a6 a7 => hQ g ⟨.inr ⟨T, true, o, a1, a7 _ _ n1 n3 n4 t, n1, n2, n3, n4, n5⟩, a7 _ _ D.TIz D.TIi1 D.TIi2 b, ⟨_, _, a7 _ _ D.TOz D.TOi1 D.TOi2 c⟩, a3, a4⟩ a5 a6 fun c o q1 q2 q3 q4 => a7 c o q1 q3 q4
theorem end_any {S : Addr} {Q : Option Value → Shared → Prop} (hh : A.handled = none) (D : ZipApart z TI TO i1 i2 l1 l2) (st : Zs s.heap z TI TO i1 i2 l1 l2 S k)
    (p1 : s.heap.IsTuple l1 xs) (p2 : s.heap.IsTuple l2 ys) (he : xs[k]? = none ∨ ys[k]? = none)
    (hQ : ∀ g, (∀ c o, c ≠ z → c ≠ TO → c ≠ i1 → c ≠ i2 → s.heap.get? c = some o → g.get? c = some o) → Q none { s with heap := g }) : wpAny (model prog w) A (pyNext (.ref z)) Q E s := by
  obtain ⟨a, b, ⟨p, q, c⟩, d, e⟩ := st
  rcases a with a | ⟨T, f, o, a, t, n1, n2, n3, n4, n5⟩
  · exact pyNext_zipT_end hh D a b c d e p1 p2 he hQ
  · exact end_out hh D a t b d e p1 p2 he fun g up => hQ g fun c o q1 q2 q3 q4 => up c o q1 q3 q4
end
/-- the addresses as hold the pairs of xs and ys, in order, above B -/
def Ps (xs ys : Array Value) (B : Nat) (h : Heap) (as : List Addr) : Prop :=
  as.Pairwise (· < ·) ∧ (∀ a ∈ as, @LE.le Nat _ B a) ∧ ∀ (j : Nat) (a : Addr), as[j]? = some a → ∃ x y, xs[j]? = some x ∧ ys[j]? = some y ∧ IsPair h a x y
theorem Ps.lt {xs ys : Array Value} {B : Nat} {h : Heap} {as : List Addr} (p : Ps xs ys B h as) {a : Addr} (m : a ∈ as) : a < h.objs.size := by
  obtain ⟨j, e⟩ := List.mem_iff_getElem?.mp m
  obtain ⟨_, _, _, _, q⟩ := p.2.2 j a e
  exact Heap.lt_size q
section
variable {prog : Program} {w : World} {A : Around} {E : Value → Shared → Prop} {s : Shared}
variable {z TI TO i1 i2 l1 l2 S : Addr} {xs ys : Array Value} {R : Result → Shared → Prop}
/-- where the zip and its parts stand: below the list -/
structure Low (z TI TO i1 i2 l1 l2 S : Addr) : Prop where
  z : @LT.lt Nat _ z S
  TI : @LT.lt Nat _ TI S
  TO : @LT.lt Nat _ TO S
  i1 : @LT.lt Nat _ i1 S
  i2 : @LT.lt Nat _ i2 S
  l1 : @LT.lt Nat _ l1 S
  l2 : @LT.lt Nat _ l2 S
def Kp (z TO i1 i2 S : Addr) (h g : Heap) : Prop := ∀ c o, c ≠ S → c ≠ z → c ≠ TO → c ≠ i1 → c ≠ i2 → h.get? c = some o → g.get? c = some o
theorem collect_zip (hh : A.handled = none) (D : ZipApart z TI TO i1 i2 l1 l2) (L : Low z TI TO i1 i2 l1 l2 S) {N B : Nat} (hN : N = min xs.size ys.size) (hl : N ≤ sizeLine) (hB : @LT.lt Nat _ S B) (res : Value) {h0 : Heap}
    (hR : ∀ g tk acc c as, Kp z TO i1 i2 S h0 g → g.get? S = some { cls := .type "list", dict := none, data := .seq acc c, slots := #[] } → as.length = N → Ps xs ys B g as → acc.toList = as.map Value.ref → R (.ok (.ret res)) { s with heap := g, toks := tk }) :
    ∀ (m k : Nat) (h : Heap) (tk c : Nat) (acc : Array Value) (as : List Addr), N - k = m → k ≤ N → Zs h z TI TO i1 i2 l1 l2 S k → h.IsTuple l1 xs → h.IsTuple l2 ys → Kp z TO i1 i2 S h0 h →
      h.get? S = some { cls := .type "list", dict := none, data := .seq acc c, slots := #[] } → acc.toList = as.map Value.ref → as.length = k → Ps xs ys B h as → B ≤ h.objs.size →
      codeAny (model prog w) A (.builtin "list.extend.loop" ⟨[.ref S, .ref z, res], []⟩) R { s with heap := h, toks := tk } := by
  intro m
  induction m with
  | zero =>
    intro k h tk c acc as hm hk st p1 p2 kp hS ha hal P hBs
    have e : k = N := by omega
    refine codeAny_builtin PySem.F.entry_extend_loop ?_
    rw [Around.under_plainId PySem.F.plain_extend_loop _]
    show wpAny _ A.in1 (pyNext (.ref z) >>= _) _ _ _
    refine wpAny_bind (end_any (s := { s with heap := h, toks := tk }) (A := A.in1) hh D st p1 p2 ?_ fun g up => ?_)
    · rcases Nat.le_total xs.size ys.size with q | q
      · exact .inl (Array.getElem?_eq_none (by omega))
      · exact .inr (Array.getElem?_eq_none (by omega))
    · have big : ∀ {a : Addr}, a ∈ as → a ≠ z ∧ a ≠ TO ∧ a ≠ i1 ∧ a ≠ i2 := fun m => by
        have h1 := P.2.1 _ m
        have := L.z; have := L.TO; have := L.i1; have := L.i2
        refine ⟨?_, ?_, ?_, ?_⟩ <;> (intro q; rw [q] at h1; omega)
      refine wpAny_pure (hR g tk acc c as (fun c o a1 a2 a3 a4 a5 q => up c o a2 a3 a4 a5 (kp c o a1 a2 a3 a4 a5 q)) (up S _ (Nat.ne_of_gt L.z) (Nat.ne_of_gt L.TO) (Nat.ne_of_gt L.i1) (Nat.ne_of_gt L.i2) hS) (hal.trans e) ⟨P.1, P.2.1, fun j a q => ?_⟩ ha)
      obtain ⟨x, y, b1, b2, b3⟩ := P.2.2 j a q
      obtain ⟨n1, n2, n3, n4⟩ := big (List.mem_of_getElem? q)
      exact ⟨x, y, b1, b2, up _ _ n1 n2 n3 n4 b3⟩
  | succ m ih =>
    intro k h tk c acc as hm hk st p1 p2 kp hS ha hal P hBs
    have hx : xs[k]? = some (xs[k]'(by omega)) := Array.getElem?_eq_getElem _
    have hy : ys[k]? = some (ys[k]'(by omega)) := Array.getElem?_eq_getElem _
    have sz : acc.size = k := by rw [← Array.length_toList, ha, List.length_map, hal]
    have hSl : S < h.objs.size := Heap.lt_size hS
    refine codeAny_builtin PySem.F.entry_extend_loop ?_
    rw [Around.under_plainId PySem.F.plain_extend_loop _]
    show wpAny _ A.in1 (pyNext (.ref z) >>= _) _ _ _
    refine wpAny_bind (next_any (s := { s with heap := h, toks := tk }) D st hSl p1 p2 hx hy fun g st' np gs up => ?_)
    dsimp only at np gs up ⊢
    have gS := up S _ (Nat.ne_of_gt L.z) (Nat.ne_of_gt L.TO) (Nat.ne_of_gt L.i1) (Nat.ne_of_gt L.i2) hS
    have ot : ∀ b o, b ≠ S → g.get? b = some o → (g.update S (Obj.mapSeq (·.push (Value.ref h.objs.size)))).get? b = some o := fun b o hb e => (Heap.get?_update_other _ _ (Ne.symm hb)).trans e
    have low : ∀ {a : Addr}, a < S → a ≠ S := fun q => Nat.ne_of_lt q
    show wpAny _ A.in1 (updateSeq S (·.push (Value.ref h.objs.size)) >>= _) _ _ _
    refine wpAny_bind ?_
    refine wpAny_updateSeq gS rfl (wpAny_pure ⟨plainId_quiet PySem.F.plain_extend_loop _, ih (k + 1) _ tk _ (acc.push (Value.ref h.objs.size)) (as ++ [h.objs.size]) (by omega) (by omega)
      (st'.keep D (low L.z) (low L.TI) (low L.TO) (low L.i1) (low L.i2) ot)
      ((p1.at fun o e => up l1 o D.l1z D.l1TO D.l1i1 D.l1i2 e).at fun o e => ot l1 o (low L.l1) e) ((p2.at fun o e => up l2 o D.l2z D.l2TO D.l2i1 D.l2i2 e).at fun o e => ot l2 o (low L.l2) e)
      (fun c o a1 a2 a3 a4 a5 q => ot c o a1 (up c o a2 a3 a4 a5 (kp c o a1 a2 a3 a4 a5 q))) (Heap.get?_update_self _ gS rfl) (by rw [Array.toList_push, ha, List.map_append]; rfl) (by rw [List.length_append, hal]; rfl) ⟨?_, ?_, ?_⟩ ?_⟩)
      (by rw [sz]; omega) (by show (acc.push (Value.ref h.objs.size)).size ≤ sizeLine + 1; rw [Array.size_push, sz]; omega)
    · refine List.pairwise_append.mpr ⟨P.1, List.pairwise_singleton _ _, fun a q b hb => ?_⟩
      rw [List.mem_singleton.mp hb]
      exact P.lt q
    · intro a q
      rcases List.mem_append.mp q with q | q
      · exact P.2.1 a q
      · rw [List.mem_singleton.mp q]; exact hBs
    · intro j b q
      rcases Nat.lt_trichotomy j as.length with o | o | o
      · rw [List.getElem?_append_left o] at q
        obtain ⟨x, y, b1, b2, b3⟩ := P.2.2 j b q
        have h1 := P.2.1 b (List.mem_of_getElem? q)
        have := L.z; have := L.TO; have := L.i1; have := L.i2
        exact ⟨x, y, b1, b2, ot b _ (by intro e; rw [e] at h1; omega) (up b _ (by intro e; rw [e] at h1; omega) (by intro e; rw [e] at h1; omega) (by intro e; rw [e] at h1; omega) (by intro e; rw [e] at h1; omega) b3)⟩
      · subst o
        have e : h.objs.size = b := by simpa using q
        subst e
        exact ⟨_, _, hal ▸ hx, hal ▸ hy, ot _ _ (Nat.ne_of_gt hSl) np⟩
      · rw [List.getElem?_eq_none (by rw [List.length_append, List.length_singleton]; omega)] at q; cases q
    · have e : (g.update S (Obj.mapSeq (·.push (Value.ref h.objs.size)))).get? h.objs.size = _ := ot _ _ (Nat.ne_of_gt hSl) np
      exact Nat.le_trans hBs (Nat.le_of_lt (Heap.lt_size e))
end
theorem zip_len0 : typeLookup (.type "zip") "__len__" = pure none := by rw [typeLookup_type, builtinLookup_eq_fast]; kernel_rfl
theorem zip_hint0 : typeLookup (.type "zip") "__length_hint__" = pure none := by rw [typeLookup_type, builtinLookup_eq_fast]; kernel_rfl
section
variable {prog : Program} {w : World} {A : Around} {E : Value → Shared → Prop} {s : Shared}
variable {z TI TO i1 i2 l1 l2 S : Addr} {xs ys : Array Value} {R : Result → Shared → Prop}
theorem fill_zip (hh : A.handled = none) (D : ZipApart z TI TO i1 i2 l1 l2) (L : Low z TI TO i1 i2 l1 l2 S) (hl : min xs.size ys.size ≤ sizeLine) (hz : IsZip s.heap z TI TO .none) (hTI : IsPair s.heap TI (.ref i1) (.ref i2))
    (hTO : IsPair s.heap TO .none .none) (h1 : s.heap.IsTupleIter i1 l1 0) (h2 : s.heap.IsTupleIter i2 l2 0) (p1 : s.heap.IsTuple l1 xs) (p2 : s.heap.IsTuple l2 ys) (hS : s.heap.get? S = some { cls := .type "list", data := .seq #[] })
    (hR : ∀ g tk acc c as, Kp z TO i1 i2 S s.heap g → g.get? S = some { cls := .type "list", dict := none, data := .seq acc c, slots := #[] } → as.length = min xs.size ys.size → Ps xs ys s.heap.objs.size g as → acc.toList = as.map Value.ref →
      R (.ok (.ret .none)) { s with heap := g, toks := tk }) :
    wpAny (model prog w) A.in1 (Builtin.«list.__init__» ⟨[.ref S, .ref z], []⟩)
      (fun fin s' => match fin with | .done f => R (.ok f) s' | .again c' => c'.quiet = true ∧ codeAny (model prog w) A c' R s') (fun e s' => R (.error e) s') s := by
  have hSl : S < s.heap.objs.size := Heap.lt_size hS
  show wpAny _ A.in1 (do let old ← Builtin.List.listItems (.ref S); Builtin.List.listUpdate (.ref S) (fun _ => #[]); letGo old.toList.reverse; Builtin.List.listExtendWith (.ref S) (.ref z) .none) _ _ s
  refine wpAny_bind ?_
  unfold Builtin.List.listItems
  refine wpAny_bind (wpAny_seqItems hS rfl (wpAny_pure ?_))
  show wpAny _ A.in1 (updateSeq S (fun _ => #[]) >>= fun _ => letGo (#[] : Array Value).toList.reverse >>= fun _ => Builtin.List.listExtendWith (.ref S) (.ref z) .none) _ _ s
  refine wpAny_bind (wpAny_updateSeq hS rfl ?_)
  have e1 := Heap.get?_update_self (Obj.mapSeq (fun _ => (#[] : Array Value))) hS rfl
  have u1 : ∀ b o, b ≠ S → s.heap.get? b = some o → (s.heap.update S (Obj.mapSeq (fun _ => (#[] : Array Value)))).get? b = some o := fun b o hb e => (Heap.get?_update_other _ _ (Ne.symm hb)).trans e
  have z1 : (s.heap.update S (Obj.mapSeq (fun _ => (#[] : Array Value)))).objs.size = s.heap.objs.size := (Heap.SameBut.update ..).1
  refine wpAny_bind (wpAny_letGo ?_)
  generalize hg1 : s.heap.update S (Obj.mapSeq (fun _ => (#[] : Array Value))) = g1 at e1 u1 z1 ⊢
  clear hg1
  have low : ∀ {a : Addr}, a < S → a ≠ S := fun q => Nat.ne_of_lt q
  have zz : IsZip g1 z TI TO .none := u1 _ _ (low L.z) hz
  have ty : Shared.TypeIs { s with heap := g1 } (.ref z) "zip" := ⟨_, zz, rfl⟩
  unfold Builtin.List.listExtendWith
  refine wpAny_bind (wpAny_typeOf ty ?_)
  have q1 : Builtin.List.listSameRef (.ref S) (.ref z) = false := by simp [Builtin.List.listSameRef, (low L.z).symm]
  have q2 : (Value.type "zip" == Value.type "list") = false := by decide
  have q3 : (Value.type "zip" == Value.type "tuple") = false := by decide
  simp only [q1, q2, q3, Bool.or_false, Bool.false_eq_true, if_false]
  refine wpAny_bind (wpAny_pyIter_zip zz ?_)
  refine wpAny_bind (wpAny_holding ?_)
  unfold Builtin.List.listLengthHint
  refine wpAny_bind (wpAny_specialOf ty zip_len0 ?_)
  show wpAny _ A.in1 (specialOf (Value.ref z) (Str.ofString "__length_hint__") >>= _) _ _ _
  refine wpAny_bind (wpAny_specialOf ty zip_hint0 ?_)
  refine wpAny_pure ?_
  show wpAny _ A.in1 (rule "list.extend.makes-room" >>= fun _ => Builtin.List.listTouch (.ref S) >>= fun _ => again (.builtin "list.extend.loop" ⟨[.ref S, .ref z, .none], []⟩)) _ _ _
  refine wpAny_bind (wpAny_rule ?_)
  refine wpAny_bind ?_
  show wpAny _ A.in1 (updateSeq S (·.push .none) >>= fun _ => updateSeq S (·.pop)) _ _ _
  refine wpAny_bind (wpAny_updateSeq e1 rfl ?_)
  have e2 := Heap.get?_update_self (Obj.mapSeq (·.push Value.none)) e1 rfl
  refine wpAny_updateSeq (hz := by seq_fits) e2 rfl ?_
  have e3 := Heap.get?_update_self (Obj.mapSeq (·.pop)) e2 rfl
  have u3 : ∀ b o, b ≠ S → s.heap.get? b = some o → ((g1.update S (Obj.mapSeq (·.push Value.none))).update S (Obj.mapSeq (·.pop))).get? b = some o :=
    fun b o hb e => (Heap.get?_update_other _ _ (Ne.symm hb)).trans ((Heap.get?_update_other _ _ (Ne.symm hb)).trans (u1 b o hb e))
  have z3 : ((g1.update S (Obj.mapSeq (·.push Value.none))).update S (Obj.mapSeq (·.pop))).objs.size = s.heap.objs.size := ((Heap.SameBut.update ..).1.trans (Heap.SameBut.update ..).1).trans z1
  refine wpAny_pure ⟨plainId_quiet PySem.F.plain_extend_loop _, collect_zip (s := { s with heap := g1 }) hh D L rfl hl hSl .none (h0 := s.heap) (fun g tk acc c as => hR g tk acc c as) _ 0 _ _ _ _ [] rfl (Nat.zero_le _)
    ⟨.inl (u3 _ _ (low L.z) hz), u3 _ _ (low L.TI) hTI, ⟨_, _, u3 _ _ (low L.TO) hTO⟩, h1.at fun o e => u3 _ o (low L.i1) e, h2.at fun o e => u3 _ o (low L.i2) e⟩
    (p1.at fun o e => u3 _ o (low L.l1) e) (p2.at fun o e => u3 _ o (low L.l2) e) (fun c o a1 _ _ _ _ q => u3 c o a1 q) e3 rfl rfl ⟨List.Pairwise.nil, (fun _ h => nomatch h), (fun j a h => by simp at h)⟩ (Nat.le_of_eq z3.symm)⟩

theorem list_zip {Q : Value → Shared → Prop} (hh : A.handled = none) (p1 : s.heap.IsTuple l1 xs) (p2 : s.heap.IsTuple l2 ys) (hl : min xs.size ys.size ≤ sizeLine)
    (hQ : ∀ g tk acc c as S, s.heap.objs.size ≤ S → (∀ c o, s.heap.get? c = some o → g.get? c = some o) → g.get? S = some { cls := .type "list", dict := none, data := .seq acc c, slots := #[] } → as.length = min xs.size ys.size → Ps xs ys (S + 1) g as →
      acc.toList = as.map Value.ref → Q (.ref S) { s with heap := g, toks := tk }) :
    wpAny (model prog w) A (call (.type "zip") [.ref l1, .ref l2]) (fun v s1 => wpAny (model prog w) A (call (.type "list") [v]) Q E s1) E s := by
  obtain ⟨o1, b1, _⟩ := id p1
  obtain ⟨o2, b2, _⟩ := id p2
  have lt1 := Heap.lt_size b1
  have lt2 := Heap.lt_size b2
  refine call_zipT p1 p2 fun h hz hTI hTO h1 h2 hs up => ?_
  have D := ktu_apart s.heap.objs.size l1 l2 lt1 lt2
  have sS : h.objs.size = s.heap.objs.size + 5 := hs
  have c0 : @LT.lt Nat _ l1 s.heap.objs.size := lt1
  have c1 : @LT.lt Nat _ l2 s.heap.objs.size := lt2
  refine callType_codes (Q₁ := fun obj s₁ => obj = .ref h.objs.size ∧ s₁ = { s with heap := h.push { cls := .type "list", data := .seq #[] } }) PySem.F.called_list (PySem.F.typeCall_list_1 _) PySem.F.entry_list_init
    (code_list_new _ ⟨rfl, rfl⟩) fun obj s₁ e₁ => ?_
  obtain ⟨rfl, rfl⟩ := e₁
  have hS : (h.push { cls := .type "list", data := .seq #[] }).get? h.objs.size = some { cls := .type "list", data := .seq #[] } := Heap.get?_push_size _ rfl
  have pu : ∀ {c : Addr} {o : Obj}, h.get? c = some o → (h.push { cls := .type "list", data := .seq #[] }).get? c = some o := fun e => Heap.get?_push_of_some _ e
  refine ⟨⟨_, hS, rfl⟩, PySem.F.args_list_init_2 _ _, fill_zip (xs := xs) (ys := ys) (A := A.in1) hh D ⟨?_, ?_, ?_, ?_, ?_, ?_, ?_⟩ hl (pu hz) (pu hTI) (pu hTO) (h1.at fun o e => pu e) (h2.at fun o e => pu e)
    ((p1.at fun o e => up _ _ e).at fun o e => pu e) ((p2.at fun o e => up _ _ e).at fun o e => pu e) hS (fun g tk acc c as kp gS ln P ha => ⟨rfl, hQ g tk acc c as _ ?_ ?_ gS ln ?_ ha⟩)⟩
  any_goals (rw [sS]; first | exact Nat.lt_add_of_pos_right (by decide) | (show @LT.lt Nat _ _ _; omega))
  · rw [sS]; exact Nat.le_add_right _ _
  · intro c o e
    have lc : @LT.lt Nat _ c s.heap.objs.size := Heap.lt_size e
    refine kp c o ?_ ?_ ?_ ?_ ?_ (pu (up c o e)) <;> (intro q; rw [q] at lc; first | (rw [sS] at lc; omega) | omega)
  · have e : (h.push { cls := .type "list", data := .seq #[] }).objs.size = h.objs.size + 1 := Heap.size_push ..
    rw [← e]
    exact P
end
end Lz

namespace Dg
open PySem PySem.Spec PyProof.Rows L2 RZ PySem.W
section
variable {X : Cx} {W : WX} {k : Nat}
theorem getR {xs : List V} {us : List Value} (r : Vals xs us) {j : Nat} {u : Value} (e : us[j]? = some u) : ∃ x, xs[j]? = some x ∧ RelV x u := by
  cases h : xs[j]? with
  | none => rw [r.none_of h] at e; cases e
  | some x =>
    obtain ⟨u', e', q⟩ := r.get h
    rw [e] at e'; cases e'
    exact ⟨x, rfl, q⟩
/-- list(zip(a, b)) of tuples: the pairs are laid, then the list -/
def tLz (K : PySem.W.Frag) (ta : TA) : TE := fun σ H Q => ta σ H fun vs H1 => ∃ a b xs ys, vs = [.ref a, .ref b] ∧ SqT K H1 a xs ∧ SqT K H1 b ys ∧ ∀ (S : Addr) (as : List Addr) (H2 : Hp), H1 S = none → H2 S = some (.lst (as.map V.ref)) → (∀ b o, H1 b = some o → H2 b = some o) →
  as.length = min xs.length ys.length → (∀ (j : Nat) a, as[j]? = some a → ∃ x y, xs[j]? = some x ∧ ys[j]? = some y ∧ H2 a = some (.tup [x, y])) → Q (.ref S) H2
theorem pe_lz {e e2 : Expr} {ta : TA} {p q pos pos2 : Pos} (hc : X.calm = true) (hg : Gl X "list") (hm : X.mg "list" = none) (hgz : Gl X "zip") (hmz : X.mg "zip" = none) (ha : PA X [e, e2] ta)
    (hs : starEach [e, e2] X.env = (false, eval e X.env) :: starEach [e2] X.env := by rfl) (hpl : (backTo pos2 (starEach [e2] X.env)).any (·.1) = false := by rfl) :
    PE X (.Call (.Name "list" p) [.Call (.Name "zip" q) [e, e2] [] pos2] [] pos) (tLz X.K ta) := by
  refine ⟨fun pins s σ H Q I h => ?_⟩
  refine Call_ (ld_blt I hg hm boot_list (PyProof.Rows.callWith_type1 (args_cons ?_ rfl) rfl))
  refine Call_ (ld_blt I hgz hmz PyProof.Rows.boot_zip (PyProof.Rows.callWith_type1 (thn (ha.run pos2 pins s σ H _ I h) fun us s1 ⟨vs, H1, I1, r1, q1⟩ => ?_) hs hpl))
  obtain ⟨a, b, xs, ys, ex, ha1, hb1, q1⟩ := q1
  subst ex
  cases r1 with
  | cons r rr =>
    cases rr with
    | cons r' rr =>
      cases rr
      cases r
      cases r'
      obtain ⟨is, va, p1, z1⟩ := I1.tuple ha1
      obtain ⟨js, vb, p2, z2⟩ := I1.tuple hb1
      have l1 := va.length
      have l2 := vb.length
      have ml : min is.toArray.size js.toArray.size = min xs.length ys.length := by simp only [List.size_toArray, l1, l2]
      refine wpAny_mono (Lz.list_zip (Q := EP X pins σ Q) (E := X.xe) (I1.ok.hd hc) (show s1.heap.IsTuple a is.toArray from p1) (show s1.heap.IsTuple b js.toArray from p2) (by rw [ml]; omega) fun g tk acc c as S hS up gS ln P hacc => ?_) (fun v s2 h2 => args_nil h2) fun _ _ h2 => h2
      have nd : as.Nodup := P.1.imp fun q => Nat.ne_of_lt q
      have big : ∀ x ∈ as, s1.heap.objs.size ≤ x := fun x hx => Nat.le_trans hS (Nat.le_of_succ_le (P.2.1 x hx))
      have S1 : H1 S = none := I1.hok.fresh hS
      have nS : S ∉ as := fun q => Nat.lt_irrefl S (P.2.1 S q)
      have I2 : Inv X pins σ (upd H1 S (.lst (as.map V.ref))) { s1 with heap := g, toks := tk } :=
        I1.laid up hS (show ObjOk X.prog X.w _ _ _ (.lst (as.map V.ref)) from ⟨by rw [List.length_map, ln, ml]; omega, acc.toList, c, by rw [hacc]; exact vals_refs as, by rw [Array.toArray_toList]; exact gS⟩)
      obtain ⟨H2, I3, ext, tk2⟩   := L2.DX.takeT (P := fun x vs => ∀ (j : Nat), as[j]? = some x → ∃ (u w : V), xs[j]? = some u ∧ ys[j]? = some w ∧ vs = [u, w]) I1 as (upd H1 S (.lst (as.map V.ref))) I2 nd fun x hx => by
        obtain ⟨j, hj⟩ := List.mem_iff_getElem?.mp hx
        obtain ⟨u, w, e1, e2, pr⟩ := P.2.2 j x hj
        have e1' : is[j]? = some u := by simpa using e1
        have e2' : js[j]? = some w := by simpa using e2
        obtain ⟨m, em, rm⟩ := getR va e1'
        obtain ⟨n, en, rn⟩ := getR vb e2'
        refine ⟨big x hx, ?_, [m, n], fun j' hj' => ?_, fun H2 => ⟨by show 2 ≤ sizeLine; decide, [u, w], .cons rm (.cons rn .nil), ⟨_, pr, rfl, _, rfl⟩⟩⟩
        · rw [upd_ne (fun q => nS (by rw [← q]; exact hx))]
          exact I1.hok.fresh (big x hx)
        · have : j' = j := (List.getElem?_inj (List.getElem?_eq_some_iff.mp hj').1 nd).mp (hj'.trans hj.symm)
          subst this
          exact ⟨m, n, em, en, rfl⟩
      refine ⟨.ref S, H2, I3, rfl, q1 S as H2 S1 (ext _ _ upd_same) (fun b o e => ext _ _ (by rw [upd_ne (ne_of_none e S1)]; exact e)) (by rw [ln, ml]) fun j x hj => ?_⟩
      obtain ⟨vs, hP, eH⟩ := tk2 x (List.mem_of_getElem? hj)
      obtain ⟨u, w, e1, e2, rfl⟩ := hP j hj
      exact ⟨u, w, e1, e2, eH⟩
/-- the mirror: a new list of pairs -/
def fLz (ma : FA) : FE := fun s μ => (ma s μ).bind fun us μ1 => match us with
  | [.tup xs, .tup ys] => .ok (.ref μ1.length) (μ1 ++ [.lst (List.zipWith (fun x y => .tup [x, y]) xs ys)])
  | _ => .bad
theorem zipPairs {K : PySem.W.Frag} {H : Hp} {ρ : List Addr} : ∀ {us ws : List U} {xs ys : List V} {as : List Addr}, RepVs K H ρ us xs → RepVs K H ρ ws ys → as.length = min xs.length ys.length →
    (∀ (j : Nat) a, as[j]? = some a → ∃ x y, xs[j]? = some x ∧ ys[j]? = some y ∧ H a = some (.tup [x, y])) → RepVs K H ρ (List.zipWith (fun x y => .tup [x, y]) us ws) (as.map V.ref)
  | [], _, _, _, as, .nil, _, hl, _ => by
    have : as = [] := List.length_eq_zero_iff.mp (by simpa using hl)
    subst this; exact .nil
  | _ :: _, [], _, _, as, .cons _ _, .nil, hl, _ => by
    have : as = [] := List.length_eq_zero_iff.mp (by simpa using hl)
    subst this; exact .nil
  | u :: us, w :: ws, _, _, [], .cons _ _, .cons _ _, hl, _ => by simp at hl
  | u :: us, w :: ws, _, _, a :: as, .cons hu ru, .cons hw rw', hl, hp => by
    obtain ⟨x, y, e1, e2, e3⟩ := hp 0 a rfl
    cases e1; cases e2
    exact .cons (.tup (.inl (.inl e3)) (.cons hu (.cons hw .nil))) (zipPairs ru rw' (by simp at hl; omega) fun j a h => hp (j + 1) a h)
theorem ce_lz {e e2 : Expr} {ma : FA} {p q pos pos2 : Pos} (G : Good X W k) (hg : Gl X "list") (hm : X.mg "list" = none) (hgz : Gl X "zip") (hmz : X.mg "zip" = none) (ha : CA X W [e, e2] ma)
    (hp : ∀ {t : TA}, PA X [e, e2] t → PE X (.Call (.Name "list" p) [.Call (.Name "zip" q) [e, e2] [] pos2] [] pos) (tLz X.K t)) : CE X W (.Call (.Name "list" p) [.Call (.Name "zip" q) [e, e2] [] pos2] [] pos) (fLz ma) := by
  intro ρ μ s σ H Q hs hm' h
  refine ⟨_, hp pa_w, ?_⟩
  refine ha ρ μ s σ H _ hs hm' (h.bind fun us μ1 vs H1 ρ1 t1 r1 h1 => ?_)
  split at h1
  · cases r1 with
    | cons ra r1 =>
      cases r1 with
      | cons rb r1 =>
        cases r1
        cases ra with
        | tup ta rxs =>
          cases rb with
          | tup tb rys =>
            refine ⟨_, _, _, _, rfl, ta, tb, fun S as H2 hS eS ext ln hp => ?_⟩
            -- the heap but for the list
            let H0 : Hp := fun b => if b = S then none else H2 b
            have e0 : upd H0 S (.lst (as.map V.ref)) = H2 := by
              funext b
              unfold upd
              by_cases hb : b = S
              · rw [if_pos hb, hb, eS]
              · rw [if_neg hb]; show (if b = S then none else H2 b) = H2 b; rw [if_neg hb]
            have x0 : ∀ b o, H1 b = some o → H0 b = some o := fun b o e => by
              show (if b = S then none else H2 b) = _
              rw [if_neg (fun q => by rw [q, hS] at e; cases e)]
              exact ext b o e
            have nS : H0 S = none := by show (if S = S then none else H2 S) = none; rw [if_pos rfl]
            have tx : TX H1 H0 := ⟨fun a xs h => by
              rcases h with h | ⟨o, h⟩
              · exact .inl (x0 _ _ h)
              · exact .inr ⟨o, x0 _ _ h⟩, fun a o u h => x0 _ _ h⟩
            have m0 : RepM X.K H0 ρ1 μ1 := t1.mem.keep tx fun a ha => by
              cases hq : H1 a with
              | none => exact absurd hq (t1.mem.here ha)
              | some o => rw [x0 _ _ hq]
            have st : Stp X.K ρ1 H1 ρ1 H0 μ1 := ⟨Ext.refl _, tx, m0⟩
            have rv : RepVs X.K (upd H0 S (.lst (as.map V.ref))) (ρ1 ++ [S]) _ (as.map V.ref) := zipPairs (((st.vs rxs).mono (TX.new nS) (Ext.snoc ρ1 S))) ((st.vs rys).mono (TX.new nS) (Ext.snoc ρ1 S)) ln (by rw [e0]; exact hp)
            have st2 : Stp X.K ρ1 H0 (ρ1 ++ [S]) (upd H0 S (.lst (as.map V.ref))) (μ1 ++ [.lst _]) := Stp.new m0 nS ⟨_, upd_same, rv⟩
            rw [← e0]
            exact h1.ok (st.trans st2) (refN t1.mem)
  · exact h1.elim
end
end Dg
/-! Dk: dicts whose keys are tuples of ints: comprehension, in, d[t] = v, d[t]. -/
namespace Dg
open PySem PySem.Spec PyProof.Rows L2

abbrev Ti := List (List Int × Addr × V)
def valI (xs : Ti) (k : List Int) : Option V := (xs.find? fun x => decide (x.1 = k)).map (·.2.2)
def putI (xs : Ti) (k : List Int) (b : Addr) (v : V) : Ti :=
  if (xs.any fun x => decide (x.1 = k)) = true then xs.map (fun x => if x.1 = k then (x.1, x.2.1, v) else x) else xs ++ [(k, b, v)]
abbrev PR : Ti → List (List Int × Addr × Value) → Prop := Paired fun p q => p.1 = q.1 ∧ p.2.1 = q.2.1 ∧ RelV p.2.2 q.2.2
theorem PR.val {xs : Ti} {ys : List (List Int × Addr × Value)} (r : PR xs ys) (k : List Int) : RelO (valI xs k) ((atKey ys k).map (·.2)) := by
  induction r with
  | nil => exact True.intro
  | @cons p q ps qs h t ih =>
    obtain ⟨h1, _, h2⟩ := h
    by_cases e : p.1 = k
    · have e' : q.1 = k := h1.symm.trans e
      have c1 : valI (p :: ps) k = some p.2.2 := by simp [valI, e]
      have c2 : atKey (q :: qs) k = some q.2 := by simp [atKey, e']
      rw [c1, c2]; exact h2
    · have e' : ¬ q.1 = k := fun z => e (h1.trans z)
      have c1 : valI (p :: ps) k = valI ps k := by simp [valI, e]
      have c2 : atKey (q :: qs) k = atKey qs k := by simp [atKey, e']
      rw [c1, c2]; exact ih
theorem PR.any {xs : Ti} {ys : List (List Int × Addr × Value)} (r : PR xs ys) (k : List Int) : (xs.any fun x => decide (x.1 = k)) = (atKey ys k).isSome := by
  induction r with
  | nil => rfl
  | @cons p q ps qs h t ih =>
    by_cases e : p.1 = k
    · have e' : q.1 = k := h.1.symm.trans e
      simp [atKey, e, e']
    · have e' : ¬ q.1 = k := fun z => e (h.1.trans z)
      have c2 : atKey (q :: qs) k = atKey qs k := by simp [atKey, e']
      rw [c2, ← ih]; simp [e]
theorem PR.put {xs : Ti} {ys : List (List Int × Addr × Value)} (r : PR xs ys) (k : List Int) (b : Addr) {v : V} {u : Value} (rv : RelV v u) : PR (putI xs k b v) (storedH ys k b u) := by
  unfold putI storedH
  rw [r.any k]
  by_cases q : (atKey ys k).isSome = true
  · rw [if_pos q, if_pos q]
    clear q
    induction r with
    | nil => exact .nil
    | @cons p q ps qs h t ih =>
      rw [List.map_cons, List.map_cons]
      refine .cons ?_ ih
      unfold putAt
      by_cases e : p.1 = k
      · rw [if_pos e, if_pos (h.1.symm.trans e)]; exact ⟨h.1, h.2.1, rv⟩
      · rw [if_neg e, if_neg (fun z => e (h.1.trans z))]; exact h
  · rw [if_neg q, if_neg q]; exact Paired.snoc r ⟨rfl, rfl, rv⟩
theorem putI_mem {xs : Ti} {k : List Int} {b : Addr} {v : V} {p : List Int × Addr × V} (h : p ∈ putI xs k b v) : (p.1 = k ∧ p.2.1 = b) ∨ ∃ q ∈ xs, q.1 = p.1 ∧ q.2.1 = p.2.1 := by
  unfold putI at h
  split at h
  · obtain ⟨x, hx, e⟩ := List.mem_map.mp h
    refine .inr ⟨x, hx, ?_⟩
    subst e
    split <;> exact ⟨rfl, rfl⟩
  · rcases List.mem_append.mp h with h | h
    · exact .inr ⟨p, h, rfl, rfl⟩
    · rw [List.mem_singleton.mp h]; exact .inl ⟨rfl, rfl⟩
theorem putI_len (xs : Ti) (k : List Int) (b : Addr) (v : V) : (putI xs k b v).length ≤ xs.length + 1 := by
  unfold putI
  split <;> simp
theorem PR.len {xs : Ti} {ys : List (List Int × Addr × Value)} (r : PR xs ys) : xs.length = ys.length := Paired.length r
theorem PR.keys {xs : Ti} {ys : List (List Int × Addr × Value)} (r : PR xs ys) : xs.map (·.1) = ys.map (·.1) := by
  induction r with
  | nil => rfl
  | cons h t ih => rw [List.map_cons, List.map_cons, h.1, ih]

section
variable {X : Cx} {pins : List (Addr × Obj)} {σ : L2.St} {H : Hp} {s : Shared} {a b : Addr} {A : Around} {E : Value → Shared → Prop} {xs : Ti} {ks : List Int}
def TiIn (K : PySem.W.Frag) (H : Hp) (a : Addr) (xs : Ti) : Prop := H a = some (TiD a xs) ∧ ∀ p ∈ xs, SqT K H p.2.1 (p.1.map V.int)
theorem ints_items {P : Program} {w : World} : ∀ {ks : List Int} {us : List Value}, Vals (ks.map V.int) us → ItemsAre (intKind P w) ks us
  | [], _, .nil => .nil
  | k :: ks, _, .cons h t => by
    obtain ⟨tk, rfl⟩ := (show ∃ t, _ = Value.int k t from h)
    exact .cons (by show Value.isInt k (.int k tk) = true; simp [Value.isInt]) (ints_items t)
theorem tkey (I : Inv X pins σ H s) (h : SqT X.K H b (ks.map V.int)) : (tupleKind (intKind X.prog X.w)).is s.heap ks b := by
  obtain ⟨its, rv, ⟨o, ho, hc, n, hd⟩, hz⟩ := I.tuple h
  exact ⟨o, its.toArray, n, ho, hc, hd, by simpa using ints_items rv⟩
theorem tdict (I : Inv X pins σ H s) (h : TiIn X.K H a xs) : (a == sysModules) = false ∧ xs.length ≤ sizeLine ∧ ∃ ys, PR xs ys ∧ s.heap.DictOfH (tupleKind (intKind X.prog X.w)) a ys := by
  obtain ⟨⟨q, z, n, ys, p, o, es, ep, e1, e2, e3, e4⟩, rest⟩ := (show ObjOk X.prog X.w H s.heap a (TiD a xs) from I.hok a _ h.1)
  refine ⟨q, z, ys, p, o, es, ep, e1, e2, e3, e4, ?_, by rw [← PR.keys p]; exact n⟩
  have hk := h.2
  clear rest e4 n z q h e3 e2 e1
  induction p with
  | nil => exact fun _ h => nomatch h
  | @cons p q ps qs hq t ih =>
    intro x hx
    rcases List.mem_cons.mp hx with e | hx
    · subst e
      have := tkey I (hk p (List.mem_cons_self ..))
      rw [hq.1, hq.2.1] at this
      exact this
    · exact ih (fun p hp => hk p (List.mem_cons_of_mem _ hp)) x hx
theorem ti_ok {P : Program} {w : World} {H' : Hp} {h' : Heap} {ys : List (List Int × Addr × Value)} (q : (a == sysModules) = false) (z : xs.length ≤ sizeLine) (p : PR xs ys) (dd : h'.DictOfH (tupleKind (intKind P w)) a ys) : ObjOk P w H' h' a (TiD a xs) := by
  obtain ⟨o, es, ep, e1, e2, e3, e4, _, e5⟩ := dd
  exact TiRaw.ok ⟨q, z, by rw [p.keys]; exact e5, ys, p, o, es, ep, e1, e2, e3, e4⟩
theorem ti_in {Q : Value → Shared → Prop} (hu : A.units + 1 < cLine) (I : Inv X pins σ H s) (h : TiIn X.K H a xs) (hb : SqT X.K H b (ks.map V.int)) (q : ∀ s', Inv X pins σ H s' → Q (.bool (valI xs ks).isSome) s') :
    wpAny (model X.prog X.w) A (compareOp .In (.ref b) (.ref a)) Q E s := by
  obtain ⟨hd, z, ys, rel, dd⟩ := tdict I h
  refine wpAny_in_heap (tupleKind_room_in1 hu) (tkey I hb) hd dd ?_
  have e := (rel.val ks).isSome_eq
  rw [Option.isSome_map] at e
  rw [← e]
  exact q _ (I.tok _)
theorem ti_nin {Q : Value → Shared → Prop} (hu : A.units + 1 < cLine) (I : Inv X pins σ H s) (h : TiIn X.K H a xs) (hb : SqT X.K H b (ks.map V.int)) (q : ∀ s', Inv X pins σ H s' → Q (.bool (!(valI xs ks).isSome)) s') :
    wpAny (model X.prog X.w) A (compareOp .NotIn (.ref b) (.ref a)) Q E s := by
  obtain ⟨hd, z, ys, rel, dd⟩ := tdict I h
  refine wpAny_notIn_heap (tupleKind_room_in1 hu) (tkey I hb) hd dd ?_
  have e := (rel.val ks).isSome_eq
  rw [Option.isSome_map] at e
  rw [← e]
  exact q _ (I.tok _)
theorem ti_write {h' : Heap} {t' : Nat} {v : V} {u : Value} {ys : List (List Int × Addr × Value)} (I : Inv X pins σ H s) (h : TiIn X.K H a xs) (hd : (a == sysModules) = false) (z : xs.length < sizeLine) (rel : PR xs ys) (rv : RelV v u)
    (dd : h'.DictOfH (tupleKind (intKind X.prog X.w)) a (storedH ys ks b u)) (sb : Heap.SameBut a s.heap h') : Inv X pins σ (upd H a (TiD a (putI xs ks b v))) { s with heap := h', toks := t' } := by
  have ex : ∃ q, h'.get? a = some q := let ⟨q, _, _, hq, _⟩ := dd; ⟨q, hq⟩
  exact d_write I (by rw [h.1]; exact True.intro) sb ex (ti_ok hd (by have := putI_len xs ks b v; omega) (rel.put ks b rv) dd)
theorem ti_set {Q : Unit → Shared → Prop} {v : V} {u : Value} (hu : A.units + 1 < cLine) (I : Inv X pins σ H s) (h : TiIn X.K H a xs) (hb : SqT X.K H b (ks.map V.int)) (z : xs.length < sizeLine) (rv : RelV v u)
    (q : ∀ s', Inv X pins σ (upd H a (TiD a (putI xs ks b v))) s' → Q () s') : wpAny (model X.prog X.w) A (setItem (.ref a) (.ref b) u) Q E s := by
  obtain ⟨hd, _, ys, rel, dd⟩ := tdict I h
  have hz : ys.length ≤ sizeLine := by rw [← rel.len]; omega
  exact wpAny_setItem_heap (hsz := hz) (tupleKind_room_in1 hu) (tkey I hb) dd fun h' dd' sb => q _ (ti_write I h hd z rel rv dd' sb)
theorem ti_new {Q : Unit → Shared → Prop} {v : V} {u : Value} (hu : A.units < cLine) (I : Inv X pins σ H s) (h : TiIn X.K H a xs) (hb : SqT X.K H b (ks.map V.int)) (z : xs.length < sizeLine) (rv : RelV v u)
    (q : ∀ s', Inv X pins σ (upd H a (TiD a (putI xs ks b v))) s' → Q () s') : wpAny (model X.prog X.w) A (dictSet a (.ref b) u) Q E s := by
  obtain ⟨hd, _, ys, rel, dd⟩ := tdict I h
  have hz : ys.length ≤ sizeLine := by rw [← rel.len]; omega
  exact wpAny_dictSet_heap (hsz := hz) hu (tkey I hb) dd fun h' dd' sb => q _ (ti_write I h hd z rel rv dd' sb)
end

/-! ### {k: v for ..}, the keys tuples of ints -/
section
variable {X : Cx}
/-- what one turn leaves: the pair is in the dict at D -/
def Stored (K : PySem.W.Frag) (D : Addr) (nx : Hp → Prop) (y z : V) (H : Hp) : Prop := ∃ xs ks b, y = .ref b ∧ SqT K H b (ks.map V.int) ∧ TiIn K H D xs ∧ xs.length < sizeLine ∧ nx (upd H D (TiD D (putI xs ks b z)))
/-- one turn of the comprehension, from the item x -/
def dTurn (K : PySem.W.Frag) (g : TG) (tt : TT) (tk tv : TE) (vs : List Nat) (σ : L2.St) (D : Addr) (nx : Hp → Prop) (x : V) (H : Hp) : Prop := g x (wipe σ vs) H fun σ2 H2 => wipe σ2 vs = wipe σ vs ∧
  tt σ2 H2 fun b H3 => if b = true then tk σ2 H3 fun y H4 => tv σ2 H4 fun z H5 => Stored K D nx y z H5 else nx H3
def tDcI (K : PySem.W.Frag) (wi : TI) (g : TG) (tt : TT) (tk tv : TE) (vs : List Nat) : TE := fun σ H Q => wi σ H fun J H1 => ∀ D, H1 D = none → ∃ W : Nat → Nat → Hp → Prop, (∃ m, W 0 m (upd H1 D (TiD D []))) ∧
  ∀ i m H, W i m H → (J.stop i H ∧ Q (.ref D) H) ∨ (J.go i H ∧ ∃ nx : Hp → Prop, (∀ H', nx H' → ∃ m', m' < m ∧ W (i + 1) m' H') ∧ ∀ x H', J.yld i H x H' → dTurn K g tt tk tv vs σ D nx x H')
theorem ti_empty {P : Program} {w : World} {H : Hp} (h : Heap) (hb : sysModules < h.objs.size) : ObjOk P w H (h.push { cls := .type "dict", data := .dict #[] }) h.objs.size (TiD h.objs.size []) :=
  TiRaw.ok ⟨beq_eq_false_iff_ne.mpr (Ne.symm (Nat.ne_of_lt hb)), Nat.zero_le _, List.nodup_nil, [], .nil, _, #[], 0, Heap.get?_push_size _ rfl, ⟨rfl, rfl, rfl⟩, rfl, rfl⟩

section
variable {kx vx tg iter : Expr} {ifs : List Expr} {scope : Scope} {own : List Nat} {pos : Pos} {g : TG} {tt : TT} {tk tv : TE} {σ : L2.St} {D it L : Addr} {J : It} {fp : List Addr} {tn : Nat → Heap → Prop} {W : Nat → Nat → Hp → Prop} {Q : VK}
/-- the loop, in the block's own context B -/
theorem dc_walk {B : Cx} {R : Result → Shared → Prop} (hc : B.calm = true) (hu : B.A.units < cLine) (T : Turn B.prog B.w B.K tg J fp it tn) (pg : PG B tg g) (pt : PTs B ifs tt) (pk : PE B kx tk) (pv : PE B vx tv)
    (stat : ∀ {τ : L2.St} {H' : Hp} {s' : Shared}, Inv B [] τ H' s' → (∀ b ∈ fp, H' b = none) → ∀ b ∈ fp, FpOk B [] H' b)
    (hW : ∀ i m H, W i m H → (J.stop i H ∧ Q (.ref D) H) ∨ (J.go i H ∧ ∃ nx : Hp → Prop, (∀ H', nx H' → ∃ m', m' < m ∧ W (i + 1) m' H') ∧ ∀ x H', J.yld i H x H' → dTurn B.K g tt tk tv own σ D nx x H'))
    (hend : ∀ s' H', Inv B [] (wipe σ own) H' s' → Q (.ref D) H' → R (.ok .next) s') (hxe : B.xe = fun _ _ => False)
    {s0 : Shared} {H0 : Hp} {m0 : Nat} (I0 : Inv B [] (wipe σ own) H0 s0) (t0 : tn 0 s0.heap) (n0 : ∀ b ∈ fp, H0 b = none) (w0 : W 0 m0 H0) :
    codeAny (model B.prog B.w) B.A (.compLoop (.DictComp kx vx [⟨tg, iter, ifs, 0⟩] scope pos) 0 (.ref it) (.ref D) B.env) R s0 := by
  refine compLoop_anyD (fun n s' => ∃ i H', Inv B [] (wipe σ own) H' s' ∧ tn i s'.heap ∧ (∀ b ∈ fp, H' b = none) ∧ W i n H') ?_ m0 ⟨0, H0, I0, t0, n0, w0⟩
  rintro n s1 ⟨i, H1, I1, t1, n1, w1⟩
  rcases hW i n H1 w1 with ⟨stop, q⟩ | ⟨go, nx, hnx, step⟩
  · refine thnF (T.done B rfl rfl rfl hc i [] s1 _ H1 (fun _ _ => False) I1 (stat I1 n1) t1 stop) fun r s2 ⟨hr, I2⟩ => ?_
    subst hr
    exact hend s2 H1 I2 q
  refine thnF (T.item B rfl rfl rfl hc i [] s1 _ H1 (fun _ _ => False) I1 (stat I1 n1) t1 go) fun r s2 ⟨u, hr, h2⟩ => ?_
  subst hr
  refine thnF h2 fun _ s3 ⟨x, H3, I3, rx, yx, t3, n3⟩ => ?_
  have I3' := I3.pinned (stat I3 n3) (T.obj _ _ t3)
  have r1 := pg.run _ s3 _ H3 x u _ I3' rx (step x H3 yx)
  rw [hxe] at r1
  refine thnF r1 fun _ s4 ⟨σ4, H4, I4, hw4, q4⟩ => ?_
  have close : ∀ {s' : Shared} {H' : Hp}, Inv B ([] ++ pinsAt fp s3.heap) σ4 H' s' → nx H' → ∃ m, m < n ∧ ∃ i H', Inv B [] (wipe σ own) H' s' ∧ tn i s'.heap ∧ (∀ b ∈ fp, H' b = none) ∧ W i m H' := fun {s' H'} I' z => by
    obtain ⟨m', hm, w'⟩ := hnx H' z
    have pin : ∀ b ∈ fp, ∀ o, s3.heap.get? b = some o → s'.heap.get? b = some o ∧ H' b = none := fun b hb o e => by
      have := I'.pin (b, o) (List.mem_append_right _ (List.mem_append_right _ (mem_pinsAt hb e)))
      exact ⟨this.1, this.2.1⟩
    refine ⟨m', hm, i + 1, H', (I'.unpinned (pins := [])).weak (by rw [← hw4, wipe_length]) (fun j v e => ?_), T.keep _ _ _ t3 fun b hb o e => (pin b hb o e).1, fun b hb => ?_, w'⟩
    · rw [← hw4] at e
      exact (wipe_some e).1
    · obtain ⟨o, e, _⟩ := T.obj _ _ t3 b hb
      exact (pin b hb o e).2
  have r2 := pt.run _ s4 σ4 H4 _ I4 q4
  rw [hxe] at r2
  refine thnF r2 fun b s5 ⟨H5, I5, q5⟩ => ?_
  cases b with
  | false => exact close I5 q5
  | true =>
    have r3 := pk.run _ s5 σ4 H5 _ I5 q5
    rw [hxe] at r3
    refine thnF r3 fun z s6 ⟨yk, H6, I6, rk, q6⟩ => ?_
    have r4 := pv.run _ s6 σ4 H6 _ I6 q6
    rw [hxe] at r4
    refine thnF r4 fun z2 s7 ⟨yv, H7, I7, rv, xs, ks, b, ey, hb, hD, hz, zz⟩ => ?_
    subst ey
    cases (show z = Value.ref b from rk)
    exact ti_new hu I7 hD hb hz rv fun s8 I8 => close I8 zz
end
theorem dcI_core {kx vx tg iter : Expr} {ifs : List Expr} {scope : Scope} {own : List (Str × Nat)} {pos pos' : Pos} {wi : TI} {g : TG} {tt : TT} {tk tv : TE} {pins : List (Addr × Obj)} {s : Shared} {σ : L2.St} {H : Hp} {Q : VK} {use : Option (Value → Sem Unit)} {Qf : Value → Shared → Prop}
    (hc : X.calm = true) (hu : X.A.units < cLine) (hN : X.N.Nodup) (I : Inv X pins σ H s) (hi : PI X tg iter wi) (ok : BlkOk X.N X.env.scope scope own)
    (hg : ∀ s H C cl fp, PG (X.blk s H scope (compEnvC scope cl C X.env) fp) tg g) (ht : ∀ s H C cl fp, PTs (X.blk s H scope (compEnvC scope cl C X.env) fp) ifs tt) (hk : ∀ s H C cl fp, PE (X.blk s H scope (compEnvC scope cl C X.env) fp) kx tk)
    (hv : ∀ s H C cl fp, PE (X.blk s H scope (compEnvC scope cl C X.env) fp) vx tv) (hs0 : ∀ x, foldedSetIterable iter X.env x = pure x) (h : tDcI X.K wi g tt tk tv (own.map (·.2)) σ H Q)
    (fin : ∀ D C s' m H', Inv X pins σ H' s' → Q (.ref D) H' → s'.heap.Ns C m → FpOk X pins H' C → compPost (model X.prog X.w) X.A X.xe use Qf (.ref D) C (.ok .next) s') :
    wpAny (model X.prog X.w) X.A (comprehension (.DictComp kx vx [⟨tg, iter, ifs, 0⟩] scope pos) scope X.env pos' newDict false (eval iter X.env) use) Qf X.xe s := by
  have free : ∀ y ∈ scope.names, y.2 = .free → ∃ c, X.env.cells.lookup y.1 = some c := fun y hy e => (ok.free y hy e).elim (fun k => I.ok.has _ (.inl k)) fun k => I.ok.has _ (.inr k)
  refine wpAny_comprehension_free (use := use) rfl hs0 (closure_ok free) ok.kind (fun y hy e => by rw [ok.uniq y hy, e]) (thn (hi.run pins s σ H _ I h) fun xv s1 hx => thn hx fun itv s2 h2 => ?_)
  obtain ⟨it, fp, tn, J, H2, rfl, I2, T, t2, f2, q⟩ := h2
  refine wpAny_newObj_type (newEnv_comp ?_)
  have hDn : H2 s2.heap.objs.size = none := I2.hok.fresh (Nat.le_refl _)
  obtain ⟨W, ⟨m0, w0⟩, turn⟩ := q _ hDn
  -- the dict is laid
  have I3 : Inv X pins σ (upd H2 s2.heap.objs.size (TiD s2.heap.objs.size [])) { s2 with heap := s2.heap.push { cls := .type "dict", data := .dict #[] } } :=
    I2.laid (t' := s2.toks) (fun b o e => Heap.get?_push_of_some _ e) (Nat.le_refl _) (ti_empty s2.heap I2.big)
  have below : ∀ b ∈ fp, b < s2.heap.objs.size := fun b hb => let ⟨_, e, _⟩ := T.obj _ _ t2 b hb; Heap.lt_size e
  have z3 : (s2.heap.push { cls := .type "dict", data := .dict #[] }).objs.size = s2.heap.objs.size + 1 := Heap.size_push ..
  have k3 : ∀ b o, s2.heap.get? b = some o → (s2.heap.push { cls := .type "dict", data := .dict #[] }).get? b = some o := fun b o e => Heap.get?_push_of_some _ e
  generalize s2.heap.push { cls := .type "dict", data := .dict #[] } = h3 at I3 z3 k3 ⊢
  have f3 : ∀ b ∈ fp, FpOk X pins (upd H2 s2.heap.objs.size (TiD s2.heap.objs.size [])) b ∧ b < h3.objs.size := fun b hb => by
    have lt := below b hb
    refine ⟨⟨?_, (f2 b hb).2⟩, by rw [z3]; exact Nat.lt_succ_of_lt lt⟩
    rw [upd_ne (Nat.ne_of_lt lt)]
    exact (f2 b hb).1
  have t3 : tn 0 h3 := T.keep _ _ _ t2 fun b _ o e => k3 b o e
  generalize hD : s2.heap.objs.size = D at *
  generalize hH : upd H2 D (TiD D []) = H3 at *
  have I4 := block_start I3 ok hN f3
  have t4 : tn 0 (pushCells (h3.push { cls := .type "dict", data := .dict #[] }) scope.names) := T.keep _ _ _ t3 fun b _ o e => pushCells_keeps _ _ _ _ (Heap.get?_push_of_some _ e)
  have walk : codeAny (model X.prog X.w) X.A (.compLoop (.DictComp kx vx [⟨tg, iter, ifs, 0⟩] scope pos) 0 (.ref it) (.ref D) (compEnvC scope (cellsFrom (h3.objs.size + 1) scope.names (cloFrom X.env.cells scope.names [])) h3.objs.size X.env))
      (compPost (model X.prog X.w) X.A X.xe use Qf (.ref D) h3.objs.size) { s2 with heap := pushCells (h3.push { cls := .type "dict", data := .dict #[] }) scope.names } := by
    refine dc_walk (B := X.blk { s2 with heap := h3 } H3 scope (compEnvC scope (cellsFrom (h3.objs.size + 1) scope.names (cloFrom X.env.cells scope.names [])) h3.objs.size X.env) fp) hc hu T (hg ..) (ht ..) (hk ..) (hv ..)
      (fun {τ H' s'} I' hn b hb => ⟨hn b hb, (I'.ok.exf b hb).1, I'.ok.exfs b hb, .inl hb, fun x c e => (I'.ok.exf b hb).2 x c e, fun p hp => absurd (show p ∈ ([] : List (Addr × Obj)) ++ [] from hp) (by simp)⟩)
      turn (fun s' H' I' q' => ?_) rfl I4 t4 (fun b hb => (f3 b hb).1.1) w0
    -- back in the context around
    have I5 : Inv X pins σ H' s' := I3.call' (ch := fp) I'.os I'.base I'.hok I'.bare fun b hb => ⟨(f3 b hb).1.2.2.2.1, (f3 b hb).1.2.1, (f3 b hb).1.2.2.2.2.1, (f3 b hb).1.2.2.2.2.2⟩
    have nC : H' h3.objs.size = none := I'.free
    obtain ⟨m, hn, _⟩ := I'.loc
    exact fin D h3.objs.size s' m H' I5 q' hn (I3.fpOk (Nat.le_refl _) nC)
  exact codeAny_compStart_dict walk (T.self X.A 0 _ _ _ t4 walk)
theorem pe_dcI {kx vx tg iter : Expr} {ifs : List Expr} {scope : Scope} {own : List (Str × Nat)} {pos : Pos} {wi : TI} {g : TG} {tt : TT} {tk tv : TE} (hc : X.calm = true) (hu : X.A.units < cLine) (hN : X.N.Nodup) (hi : PI X tg iter wi) (ok : BlkOk X.N X.env.scope scope own)
    (hg : ∀ s H C cl fp, PG (X.blk s H scope (compEnvC scope cl C X.env) fp) tg g) (ht : ∀ s H C cl fp, PTs (X.blk s H scope (compEnvC scope cl C X.env) fp) ifs tt) (hk : ∀ s H C cl fp, PE (X.blk s H scope (compEnvC scope cl C X.env) fp) kx tk)
    (hv : ∀ s H C cl fp, PE (X.blk s H scope (compEnvC scope cl C X.env) fp) vx tv) (hs0 : ∀ x, foldedSetIterable iter X.env x = pure x := by intro _; rfl) :
    PE X (.DictComp kx vx [⟨tg, iter, ifs, 0⟩] scope pos) (tDcI X.K wi g tt tk tv (own.map (·.2))) := by
  refine ⟨fun pins s σ H Q I h => ?_⟩
  rw [arm_eval_DictComp]
  refine dcI_core hc hu hN I hi ok hg ht hk hv hs0 h fun D C s' m H' I' q' hn f => ⟨m, hn, fun h5 sb => ?_⟩
  obtain ⟨c0, c1, c2, c3, c4, c5⟩ := f
  exact ⟨.ref D, H', I'.turned (t' := s'.toks) (fun b o hb e => (sb.2 b hb).trans e) c0 c1 c3 c4 c5, rfl, q'⟩
theorem sw_trueD {kx vx : Expr} {gs : List Comprehension} {scope : Scope} {pos py : Pos} {y : Str} {l : Nat} {env : Env} (hk : env.scope.kind = .function) (hy : env.scope.names.lookup y = some .local) (hl : (py.line == pos.line) = true)
    (ha : (scope.names.any fun (n, k) => n == y && (k == .local || k == .cell)) = false) : swapsWith (.DictComp kx vx gs scope pos) (some (.Name y py)) l env = pure true := by
  have e1 : env.kindOf y = some .local := hy
  have e2 : env.blockKind = .function := by unfold Env.blockKind; rw [hk]; rfl
  unfold swapsWith
  simp only [e1, e2, ha, Expr.pos, hl]
  rfl
/-- y = {k: v for ..} -/
theorem ps_setDcI {i : Nat} {y : Str} {py spos : Pos} {kx vx tg iter : Expr} {ifs : List Expr} {scope : Scope} {own : List (Str × Nat)} {pos : Pos} {wi : TI} {g : TG} {tt : TT} {tk tv : TE} (hc : X.calm = true) (hu : X.A.units < cLine) (hN : X.N.Nodup) (hy : X.N[i]? = some y)
    (hyl : X.env.scope.names.lookup y = some .local) (hsw : swapsWith (.DictComp kx vx [⟨tg, iter, ifs, 0⟩] scope pos) (some (.Name y py)) spos.line X.env = pure true) (hi : PI X tg iter wi) (ok : BlkOk X.N X.env.scope scope own)
    (hg : ∀ s H C cl fp, PG (X.blk s H scope (compEnvC scope cl C X.env) fp) tg g) (ht : ∀ s H C cl fp, PTs (X.blk s H scope (compEnvC scope cl C X.env) fp) ifs tt) (hk : ∀ s H C cl fp, PE (X.blk s H scope (compEnvC scope cl C X.env) fp) kx tk)
    (hv : ∀ s H C cl fp, PE (X.blk s H scope (compEnvC scope cl C X.env) fp) vx tv) (hs0 : ∀ x, foldedSetIterable iter X.env x = pure x := by intro _; rfl) :
    PS X (.Assign [.Name y py] (.DictComp kx vx [⟨tg, iter, ifs, 0⟩] scope pos) spos) (tAsg (tDcI X.K wi g tt tk tv (own.map (·.2))) (gName i)) := by
  refine ⟨fun pins s σ H D I h => ?_⟩
  rw [exec_Assign_Name_used _ _ _ _ hsw]
  refine wpAny_bind (wpAny_standAt (wpAny_bind ?_))
  show wpAny _ X.A (do let _ ← comprehension (.DictComp kx vx [⟨tg, iter, ifs, 0⟩] scope pos) scope X.env (firstIterPos [⟨tg, iter, ifs, 0⟩] pos) newDict false (eval iter X.env) (some (assign (.Name y py) X.env))) _ _ s
  have h' : tDcI X.K wi g tt tk tv (own.map (·.2)) σ H (fun x H1 => gName i x σ H1 D.nx) := h
  refine wpAny_bind (thn (dcI_core (Qf := fun _ s' => SP X pins D .next s') hc hu hN I hi ok hg ht hk hv hs0 h' fun L C s' m H' I' q hn f => ?_) fun _ s' z => wpAny_pure (wpAny_pure z))
  show wpAny _ _ (assign (.Name y py) X.env (.ref L)) _ _ _
  refine wpAny_assign_Name (store_ok2 (v := V.ref L) I' hN hy (.inl hyl) rfl (fun s2 I2 ⟨a, sb, ha⟩ => ?_) (.inr hyl))
  obtain ⟨c0, c1, c2, c3, c4, c5⟩ := f
  have ne : C ≠ a := ha.elim (fun z => by rw [z]; exact c1) fun z e => c4 y a z e.symm
  exact ⟨m, hn.sameBut sb ne, fun h3 sb3 => ⟨_, H', I2.turned (t' := s2.toks) (fun b o hb e => (sb3.2 b hb).trans e) c0 c1 c3 c4 c5, q⟩⟩
end
end Dg
/-! Dm: dicts whose keys are tuples of ints: the mirror. -/
namespace Dg
open PySem PySem.Spec PyProof.Rows L2

def tkeyL : List U → Option (List Int)
  | [] => some []
  | .int i :: us => (tkeyL us).map (i :: ·)
  | _ :: _ => none
def tkeyU : U → Option (List Int)
  | .tup us => tkeyL us
  | _ => none
theorem tkeyL_ok : ∀ {us : List U} {ks : List Int}, tkeyL us = some ks → us = ks.map U.int
  | [], _, e => by cases e; rfl
  | u :: us, ks, e => by
    cases u with
    | int i =>
      obtain ⟨l, h, rfl⟩ := Option.map_eq_some_iff.mp e
      rw [List.map_cons, ← tkeyL_ok h]
    | _ => cases e
theorem tkeyU_ok {K : PySem.W.Frag} {H : Hp} {ρ : List Addr} {u : U} {v : V} {ks : List Int} (r : RepV K H ρ u v) (e : tkeyU u = some ks) : ∃ b, v = .ref b ∧ SqT K H b (ks.map V.int) := by
  cases r with
  | tup hs hr =>
    rw [tkeyL_ok (show tkeyL _ = some ks from e)] at hr
    rw [RepVs.ints hr] at hs
    exact ⟨_, rfl, hs⟩
  | _ => cases e
abbrev KI := List (List Int × U)
def valUI (kus : KI) (k : List Int) : Option U := (kus.find? fun x => decide (x.1 = k)).map (·.2)
def putUI (kus : KI) (k : List Int) (u : U) : KI :=
  if (kus.any fun x => decide (x.1 = k)) = true then kus.map (fun x => if x.1 = k then (x.1, u) else x) else kus ++ [(k, u)]
inductive RepTi (K : PySem.W.Frag) (H : Hp) (ρ : List Addr) : KI → Ti → Prop
  | nil : RepTi K H ρ [] []
  | cons {k : List Int} {u : U} {b : Addr} {v : V} {kus : KI} {xs : Ti} : SqT K H b (k.map V.int) → RepV K H ρ u v → RepTi K H ρ kus xs → RepTi K H ρ ((k, u) :: kus) ((k, b, v) :: xs)
section
variable {K : PySem.W.Frag} {H : Hp} {ρ : List Addr}
theorem RepTi.of : ∀ {kus : KI} {xs : Ti}, (∀ p ∈ xs, SqT K H p.2.1 (p.1.map V.int)) → xs.map (·.1) = kus.map (·.1) → RepVs K H ρ (kus.map (·.2)) (xs.map (·.2.2)) → RepTi K H ρ kus xs
  | [], [], _, _, _ => .nil
  | [], _ :: _, _, e, _ => by simp at e
  | _ :: _, [], _, e, _ => by simp at e
  | (k, u) :: kus, (k', b, v) :: xs, h, e, r => by
    simp only [List.map_cons, List.cons.injEq] at e
    obtain ⟨rfl, e⟩ := e
    rw [List.map_cons, List.map_cons] at r
    cases r with
    | cons r1 r2 => exact .cons (h _ (List.mem_cons_self ..)) r1 (RepTi.of (fun p hp => h p (List.mem_cons_of_mem _ hp)) e r2)
theorem RepTi.to {kus : KI} {xs : Ti} (r : RepTi K H ρ kus xs) : (∀ p ∈ xs, SqT K H p.2.1 (p.1.map V.int)) ∧ xs.map (·.1) = kus.map (·.1) ∧ RepVs K H ρ (kus.map (·.2)) (xs.map (·.2.2)) := by
  induction r with
  | nil => exact ⟨(fun _ h => nomatch h), rfl, .nil⟩
  | cons h r t ih =>
    refine ⟨fun p hp => ?_, by simp only [List.map_cons, ih.2.1], by rw [List.map_cons, List.map_cons]; exact .cons r ih.2.2⟩
    rcases List.mem_cons.mp hp with rfl | hp
    · exact h
    · exact ih.1 p hp
theorem RepTi.mono {H' : Hp} {ρ' : List Addr} {kus : KI} {xs : Ti} (t : TX H H') (e : Ext ρ ρ') (r : RepTi K H ρ kus xs) : RepTi K H' ρ' kus xs := by
  induction r with
  | nil => exact .nil
  | cons h r _ ih => exact .cons (t.seq h) (r.mono t e) ih
theorem RepTi.len {kus : KI} {xs : Ti} (r : RepTi K H ρ kus xs) : xs.length = kus.length := by
  induction r with
  | nil => rfl
  | cons h r _ ih => simp [ih]
theorem RepTi.val {kus : KI} {xs : Ti} (r : RepTi K H ρ kus xs) (k : List Int) : (valUI kus k = none → valI xs k = none) ∧ ∀ u, valUI kus k = some u → ∃ v, valI xs k = some v ∧ RepV K H ρ u v := by
  induction r with
  | nil => exact ⟨fun _ => rfl, fun u e => by simp [valUI] at e⟩
  | @cons k' u b v kus xs h r t ih =>
    by_cases e : k' = k
    · refine ⟨fun q => by simp [valUI, e] at q, fun w q => ⟨v, by simp [valI, e], ?_⟩⟩
      simp [valUI, e] at q
      exact q ▸ r
    · have e1 : valUI ((k', u) :: kus) k = valUI kus k := by simp [valUI, e]
      have e2 : valI ((k', b, v) :: xs) k = valI xs k := by simp [valI, e]
      rw [e1, e2]; exact ih
theorem RepTi.any {kus : KI} {xs : Ti} (r : RepTi K H ρ kus xs) (k : List Int) : (xs.any fun x => decide (x.1 = k)) = (kus.any fun x => decide (x.1 = k)) := by
  induction r with
  | nil => rfl
  | cons h r t ih => simp [ih]
theorem RepTi.swap {k : List Int} {u : U} {v : V} (ru : RepV K H ρ u v) {kus : KI} {xs : Ti} (r : RepTi K H ρ kus xs) :
    RepTi K H ρ (kus.map fun x => if x.1 = k then (x.1, u) else x) (xs.map fun x => if x.1 = k then (x.1, x.2.1, v) else x) := by
  induction r with
  | nil => exact .nil
  | @cons k' u' b' v' kus xs h r t ih =>
    rw [List.map_cons, List.map_cons]
    by_cases e : k' = k
    · subst e
      simp only [if_true]
      exact .cons h ru ih
    · simp only [e, if_false]
      exact .cons h r ih
theorem RepTi.snoc {k : List Int} {b : Addr} {u : U} {v : V} (hb : SqT K H b (k.map V.int)) (ru : RepV K H ρ u v) {kus : KI} {xs : Ti} (r : RepTi K H ρ kus xs) : RepTi K H ρ (kus ++ [(k, u)]) (xs ++ [(k, b, v)]) := by
  induction r with
  | nil => exact .cons hb ru .nil
  | cons h r t ih => exact .cons h r ih
theorem RepTi.put {kus : KI} {xs : Ti} (r : RepTi K H ρ kus xs) {k : List Int} {b : Addr} {u : U} {v : V} (hb : SqT K H b (k.map V.int)) (ru : RepV K H ρ u v) : RepTi K H ρ (putUI kus k u) (putI xs k b v) := by
  unfold putUI putI
  rw [r.any k]
  split
  · exact r.swap ru
  · exact r.snoc hb ru
theorem dtt_of {μ : Mem} (hm : RepM K H ρ μ) {i : Nat} {a : Addr} {kus : KI} (e : ρ[i]? = some a) (h : μ[i]? = some (.dtt kus)) : ∃ xs, H a = some (TiD a xs) ∧ RepTi K H ρ kus xs := by
  obtain ⟨xs, q, m, w, r⟩ := hm.get e h
  exact ⟨xs, q, RepTi.of m w r⟩
theorem newTi {μ : Mem} (hm : RepM K H ρ μ) {p : Addr} (np : H p = none) : Stp K ρ H (ρ ++ [p]) (upd H p (TiD p [])) (μ ++ [.dtt []]) :=
  Stp.new hm np ⟨[], upd_same, (fun _ h => nomatch h), rfl, .nil⟩
theorem putTi {μ : Mem} (hm : RepM K H ρ μ) {i : Nat} {a : Addr} {kus kus' : KI} {xs' : Ti} (e : ρ[i]? = some a) (h : μ[i]? = some (.dtt kus)) (r : RepTi K H ρ kus' xs') : Stp K ρ H ρ (upd H a (TiD a xs')) (μ.set i (.dtt kus')) := by
  have t : TX H (upd H a (TiD a xs')) := (hm.get e h).tx rfl
  have q := (r.mono t (Ext.refl _)).to
  exact Stp.put hm e h rfl ⟨xs', upd_same, q.1, q.2.1, q.2.2⟩
end
def dttU (μ : Mem) : U → Option KI
  | .ref i => match μ[i]? with
    | some (.dtt kus) => some kus
    | _ => none
  | _ => none
theorem dtt_at {K : PySem.W.Frag} {ρ : List Addr} {μ : Mem} {H : Hp} {u : U} {x : V} {kus : KI} (hm : RepM K H ρ μ) (ru : RepV K H ρ u x) (hd : dttU μ u = some kus) :
    ∃ i a xs, u = .ref i ∧ ρ[i]? = some a ∧ μ[i]? = some (.dtt kus) ∧ x = .ref a ∧ H a = some (TiD a xs) ∧ RepTi K H ρ kus xs := by
  cases ru with
  | @ref i a hr =>
    have e1 : μ[i]? = some (.dtt kus) := by
      unfold dttU at hd
      simp only at hd
      split at hd
      all_goals first
        | (cases hd; assumption)
        | (cases hd; done)
    obtain ⟨xs, q1, r1⟩ := dtt_of hm hr e1
    exact ⟨i, a, xs, rfl, hr, e1, rfl, q1, r1⟩
  | _ => simp [dttU] at hd
section
variable {X : Cx} {W : WX} {k : Nat}
/-! ### in -/
def rInTi (K : PySem.W.Frag) (neg : Bool) : R2 := fun x y H Q => ∃ a b xs ks, x = .ref b ∧ y = .ref a ∧ TiIn K H a xs ∧ SqT K H b (ks.map V.int) ∧ Q (.bl (if neg then !(valI xs ks).isSome else (valI xs ks).isSome)) H
theorem op_inTi (hu : X.A.units + 1 < cLine) : OpR X (compareOp .In) (rInTi X.K false) := by
  intro pins s σ H x y v u Q I rx ry h
  obtain ⟨a, b, xs, ks, rfl, rfl, hd, hb, q⟩ := h
  obtain rfl : v = Value.ref b := rx
  obtain rfl : u = Value.ref a := ry
  exact ti_in hu I hd hb fun s' I' => ⟨.bl (valI xs ks).isSome, H, I', rfl, q⟩
theorem op_ninTi (hu : X.A.units + 1 < cLine) : OpR X (compareOp .NotIn) (rInTi X.K true) := by
  intro pins s σ H x y v u Q I rx ry h
  obtain ⟨a, b, xs, ks, rfl, rfl, hd, hb, q⟩ := h
  obtain rfl : v = Value.ref b := rx
  obtain rfl : u = Value.ref a := ry
  exact ti_nin hu I hd hb fun s' I' => ⟨.bl (!(valI xs ks).isSome), H, I', rfl, q⟩
def uInX (u w : U) (μ : Mem) : Res U := match dttU μ w with
  | some kus => match tkeyU u with
    | some ks => .ok (.bl (valUI kus ks).isSome) μ
    | none => .bad
  | none => uIn u w μ
def uNinX (u w : U) (μ : Mem) : Res U := match dttU μ w with
  | some kus => match tkeyU u with
    | some ks => .ok (.bl (!(valUI kus ks).isSome)) μ
    | none => .bad
  | none => uNin u w μ
theorem RepTi.isSome {K : PySem.W.Frag} {H : Hp} {ρ : List Addr} {kus : KI} {xs : Ti} (r : RepTi K H ρ kus xs) (k : List Int) : (valI xs k).isSome = (valUI kus k).isSome := by
  cases e : valUI kus k with
  | none => rw [(r.val k).1 e]; rfl
  | some u => obtain ⟨v, q, _⟩ := (r.val k).2 u e; rw [q]; rfl
theorem os_inX (G : Good X W (k + 40)) : OpS X W (compareOp .In) uInX := by
  intro ρ μ σ H u w x y Q hm ru rw' h
  unfold uInX at h
  cases e : dttU μ w with
  | none => rw [e] at h; exact os_in G ρ μ σ H u w x y Q hm ru rw' h
  | some kus =>
    rw [e] at h
    simp only at h
    cases ek : tkeyU u with
    | none => rw [ek] at h; exact h.elim
    | some ks =>
      rw [ek] at h
      obtain ⟨i, a, xs, rfl, hr, em, rfl, hH, r⟩ := dtt_at hm rw' e
      obtain ⟨b, rfl, hb⟩ := tkeyU_ok ru ek
      exact ⟨_, op_inTi G.hu, a, b, xs, ks, rfl, rfl, ⟨hH, r.to.1⟩, hb, h.ok (Stp.refl hm) (by simp only [Bool.false_eq_true, if_false, r.isSome]; exact .bl)⟩
theorem os_ninX (G : Good X W (k + 40)) : OpS X W (compareOp .NotIn) uNinX := by
  intro ρ μ σ H u w x y Q hm ru rw' h
  unfold uNinX at h
  cases e : dttU μ w with
  | none => rw [e] at h; exact os_nin G ρ μ σ H u w x y Q hm ru rw' h
  | some kus =>
    rw [e] at h
    simp only at h
    cases ek : tkeyU u with
    | none => rw [ek] at h; exact h.elim
    | some ks =>
      rw [ek] at h
      obtain ⟨i, a, xs, rfl, hr, em, rfl, hH, r⟩ := dtt_at hm rw' e
      obtain ⟨b, rfl, hb⟩ := tkeyU_ok ru ek
      exact ⟨_, op_ninTi G.hu, a, b, xs, ks, rfl, rfl, ⟨hH, r.to.1⟩, hb, h.ok (Stp.refl hm) (by simp only [if_true, r.isSome]; exact .bl)⟩

/-! ### d[t] = e -/
def rSetTi (K : PySem.W.Frag) : TSet := fun o i v H Q => ∃ a b xs ks, o = .ref a ∧ i = .ref b ∧ TiIn K H a xs ∧ SqT K H b (ks.map V.int) ∧ xs.length < sizeLine ∧ Q (upd H a (TiD a (putI xs ks b v)))
theorem set_ti (hu : X.A.units + 1 < cLine) : PSet X (rSetTi X.K) := by
  intro pins s σ H o i v ov iv u Q I ro ri rv h
  obtain ⟨a, b, xs, ks, rfl, rfl, hd, hb, hz, q⟩ := h
  obtain rfl : ov = Value.ref a := ro
  obtain rfl : iv = Value.ref b := ri
  exact ti_set hu I hd hb hz rv fun s' I' => ⟨_, I', q⟩
def stUX (o i u : U) (μ : Mem) : Option Mem := match o with
  | .ref r => match μ[r]? with
    | some (.dtt kus) => match tkeyU i with
      | some ks => if kus.length < lim then some (μ.set r (.dtt (putUI kus ks u))) else none
      | none => none
    | _ => stU o i u μ
  | _ => stU o i u μ
def sStoreX (o i a : FE) : FS := fun s μ => ofR (a s μ) s fun u μ1 => ofR (o s μ1) s fun x μ2 => ofR (i s μ2) s fun y μ3 => match stUX x y u μ3 with
  | some μ4 => .nx s μ4
  | none => .bad
theorem stUX_no {o i u : U} {μ : Mem} (h : dttU μ o = none) : stUX o i u μ = stU o i u μ := by
  unfold stUX
  cases o with
  | ref r =>
    simp only
    split
    · rename_i kus e
      simp [dttU, e] at h
    · rfl
  | _ => rfl
theorem cs_storeX {o i e : Expr} {mo mi me : FE} {pos pos' : Pos} (G : Good X W (k + 40)) (ho : CE X W o mo) (hi : CE X W i mi) (he : CE X W e me)
    (h1 : ∀ {to ti te : TE}, PE X o to → PE X i ti → PE X e te → PS X (.Assign [.Subscript o i pos'] e pos) (tAsg te (gSub to ti rSetL)))
    (h2 : ∀ {to ti te : TE}, PE X o to → PE X i ti → PE X e te → PS X (.Assign [.Subscript o i pos'] e pos) (sDPut to ti te))
    (h3 : ∀ {to ti te : TE}, PE X o to → PE X i ti → PE X e te → PS X (.Assign [.Subscript o i pos'] e pos) (tAsg te (gSub to ti (rSetTi X.K)))) : CS X W (.Assign [.Subscript o i pos'] e pos) (sStoreX mo mi me) := by
  intro ρ μ s σ H D hs hm h
  by_cases hd : ∃ u μ1 x μ2 y μ3 kus, me s μ = .ok u μ1 ∧ mo s μ1 = .ok x μ2 ∧ mi s μ2 = .ok y μ3 ∧ dttU μ3 x = some kus
  · obtain ⟨u, μ1, x, μ2, y, μ3, kus, e1, e2, e3, e4⟩ := hd
    refine ⟨_, h3 pe_w pe_w pe_w, ?_⟩
    unfold sStoreX at h
    simp only [e1, e2, e3, ofR] at h
    refine he ρ μ s σ H _ hs hm ?_
    rw [e1]
    intro uv H1 ρ1 t1 r1
    refine ho ρ1 μ1 s σ H1 _ (t1.s hs) t1.mem ?_
    rw [e2]
    intro xv H2 ρ2 t2 r2
    refine hi ρ2 μ2 s σ H2 _ (t2.s (t1.s hs)) t2.mem ?_
    rw [e3]
    intro yv H3 ρ3 t3 r3
    have g4 := PostS.from ((t1.trans t2).trans t3) h
    obtain ⟨r, a, xs, rfl, hr, em, rfl, hH, rk⟩ := dtt_at t3.mem (t3.v r2) e4
    simp only [stUX, em] at g4
    cases ek : tkeyU y with
    | none => rw [ek] at g4; exact g4.elim
    | some ks =>
      rw [ek] at g4
      simp only at g4
      by_cases hz : kus.length < lim
      · rw [if_pos hz] at g4
        obtain ⟨b, rfl, hb⟩ := tkeyU_ok r3 ek
        have t4 := putTi t3.mem hr em (rk.put hb (t3.v (t2.v r1)))
        exact ⟨a, b, xs, ks, rfl, rfl, ⟨hH, rk.to.1⟩, hb, by rw [rk.len]; exact lim_lt hz, g4 σ _ ρ3 t4 (t4.s (t3.s (t2.s (t1.s hs))))⟩
      · rw [if_neg hz] at g4; exact g4.elim
  · refine cs_store G ho hi he h1 h2 ρ μ s σ H D hs hm ?_
    have e : sStoreX mo mi me s μ = sStore mo mi me s μ := by
      unfold sStoreX sStore
      cases e1 : me s μ with
      | ok u μ1 =>
        simp only [ofR]
        cases e2 : mo s μ1 with
        | ok x μ2 =>
          simp only
          cases e3 : mi s μ2 with
          | ok y μ3 =>
            simp only
            have n : dttU μ3 x = none := by
              cases q : dttU μ3 x with
              | none => rfl
              | some kus => exact absurd ⟨u, μ1, x, μ2, y, μ3, kus, e1, e2, e3, q⟩ hd
            rw [stUX_no n]
            try (cases stU x y u μ3 <;> rfl)
          | _ => rfl
        | _ => rfl
      | _ => rfl
    rw [← e]
    exact h

/-! ### {t: v for ..} -/
def dcGo (j : IterU) (own : List Nat) (g : Tgt) (t : FT) (kk e : FE) (s : Slots) (D : Nat) : Nat → Nat → Mem → Res U
  | 0, _, _ => .bad
  | f + 1, i, μ => match itemAt j i μ with
    | none => .bad
    | some none => .ok (.ref D) μ
    | some (some u) => match setT g u (wipeU s own) with
      | none => .bad
      | some s1 => match t s1 μ with
        | .ok true μ3 => match kk s1 μ3 with
          | .ok kv μ4 => match e s1 μ4 with
            | .ok v μ5 => match μ5[D]? with
              | some (.dtt acc) => match tkeyU kv with
                | some ks => if acc.length < lim then dcGo j own g t kk e s D f (i + 1) (μ5.set D (.dtt (putUI acc ks v))) else .bad
                | none => .bad
              | _ => .bad
            | _ => .bad
          | _ => .bad
        | .ok false μ3 => dcGo j own g t kk e s D f (i + 1) μ3
        | _ => .bad
def fDcI (it : FI) (own : List Nat) (g : Tgt) (t : FT) (kk e : FE) : FE := fun s μ => (it s μ).bind fun j μ1 => dcGo j own g t kk e s μ1.length fuelF 0 (μ1 ++ [.dtt []])
theorem Post.into {α β : Type} {σ : L2.St} {rel : RelT α β} {ρ ρ1 : List Addr} {H H1 : Hp} {μ1 : Mem} {r : Res α} {Q : β → Hp → Prop} (t : Stp X.K ρ H ρ1 H1 μ1) (h : Post X W σ rel ρ H r Q) : Post X W σ rel ρ1 H1 r Q := by
  cases r with
  | ok c m2 => exact fun v2 H3 ρ3 t3 q3 => h v2 H3 ρ3 (t.trans t3) q3
  | ex c m2 => exact fun cls H3 ρ3 t3 e => h cls H3 ρ3 (t.trans t3) e
  | bad => exact h
theorem dcI_reads {tg iter : Expr} {ifs : List Expr} {kx vx : Expr} {scope : Scope} {own : List Nat} {mi : FI} {g : Tgt} {t : FT} {kk e : FE} (hi : CI X W tg iter mi)
    (hg : ∀ s H0 C cl fp, CG (X.blk s H0 scope (compEnvC scope cl C X.env) fp) tg g) (ht : ∀ s H0 C cl fp, CTs (X.blk s H0 scope (compEnvC scope cl C X.env) fp) W0 ifs t)
    (hk : ∀ s H0 C cl fp, CE (X.blk s H0 scope (compEnvC scope cl C X.env) fp) W0 kx kk) (he : ∀ s H0 C cl fp, CE (X.blk s H0 scope (compEnvC scope cl C X.env) fp) W0 vx e) (hsub : subT g own = true)
    {ρ : List Addr} {μ : Mem} {s : Slots} {σ : L2.St} {H : Hp} {Q : VK} (hs : RepS X.K H ρ s σ) (hm : RepM X.K H ρ μ) (h : Post X W σ relV ρ H (fDcI mi own g t kk e s μ) Q) :
    tDcI X.K (WI X tg iter) (WGb X scope tg) (WTb X scope ifs) (WEb X scope kx) (WEb X scope vx) own σ H Q := by
  refine hi ρ μ s σ H _ hs hm (h.bind fun j μ1 J H1 ρ1 t1 r1 h1 => ?_)
  intro D hD
  have hJ : ItOk X.K ρ1 H1 j J := r1
  have tD := newTi t1.mem hD
  refine ⟨fun i m H' => ∃ ρ' μ', Stp X.K (ρ1 ++ [D]) (upd H1 D (TiD D [])) ρ' H' μ' ∧ Post X W σ relV ρ' H' (dcGo j own g t kk e s μ1.length m i μ') Q, ⟨fuelF, ρ1 ++ [D], μ1 ++ [.dtt []], Stp.refl tD.mem, h1.into tD⟩, ?_⟩
  intro i m H' ⟨ρ', μ', t', h'⟩
  have hDr : ρ'[μ1.length]? = some D := t'.ext.get (by rw [← t1.mem.len, List.getElem?_append_right (Nat.le_refl _)]; simp)
  cases m with
  | zero => exact h'.elim
  | succ m =>
    have q := hJ i ρ' H' μ' (tD.ext.trans t'.ext) (tD.tx.trans t'.tx) t'.mem
    unfold dcGo at h'
    cases e0 : itemAt j i μ' with
    | none => rw [e0] at h'; exact h'.elim
    | some o =>
      rw [e0] at h' q
      cases o with
      | none => exact .inl ⟨q, h'.ok (Stp.refl t'.mem) (.ref hDr)⟩
      | some u =>
        refine .inr ⟨q.1, fun H2 => ∃ ρ2 μ2, Stp X.K (ρ1 ++ [D]) (upd H1 D (TiD D [])) ρ2 H2 μ2 ∧ Post X W σ relV ρ2 H2 (dcGo j own g t kk e s μ1.length m (i + 1) μ2) Q, fun H2 z => ⟨m, Nat.lt_succ_self m, z⟩, fun x H'' y => ?_⟩
        obtain ⟨t2, ru⟩ := q.2 x H'' y
        simp only at h'
        have hsw : RepS X.K H'' ρ' (wipeU s own) (wipe σ own) := (t2.s (t'.s (tD.s (t1.s hs)))).wipe own
        cases es : setT g u (wipeU s own) with
        | none => rw [es] at h'; exact h'.elim
        | some s1 =>
          rw [es] at h'
          simp only at h'
          intro s0 H0 C cl fp
          refine hg s0 H0 C cl fp ρ' (wipeU s own) (wipe σ own) H'' u x s1 _ hsw ru es fun σ3 hs3 hw => ⟨?_, ?_⟩
          · have := hw own (subT_ok hsub)
            rw [this]
            exact wipe_wipe fun i hi => hi
          · intro s0' H0' C' cl' fp'
            refine ht s0' H0' C' cl' fp' ρ' μ' s1 σ3 H'' _ hs3 t2.mem ?_
            cases et : t s1 μ' with
            | ex c m2 => rw [et] at h'; exact h'.elim
            | bad => rw [et] at h'; exact h'.elim
            | ok b μ3 =>
              rw [et] at h'
              intro b' H4 ρ4 t4 r4
              cases r4
              cases b with
              | false => exact iteF ⟨ρ4, μ3, (t'.trans t2).trans t4, Post.into (t2.trans t4) h'⟩
              | true =>
                refine iteT ?_
                intro s0' H0' C' cl' fp'
                refine hk s0' H0' C' cl' fp' ρ4 μ3 s1 σ3 H4 _ (t4.s hs3) t4.mem ?_
                simp only at h'
                cases ekk : kk s1 μ3 with
                | ex c m2 => rw [ekk] at h'; exact h'.elim
                | bad => rw [ekk] at h'; exact h'.elim
                | ok kv μ4 =>
                  rw [ekk] at h'
                  simp only at h'
                  intro yk H5 ρ5 t5 r5
                  intro s0' H0' C' cl' fp'
                  refine he s0' H0' C' cl' fp' ρ5 μ4 s1 σ3 H5 _ (t5.s (t4.s hs3)) t5.mem ?_
                  cases ee : e s1 μ4 with
                  | ex c m2 => rw [ee] at h'; exact h'.elim
                  | bad => rw [ee] at h'; exact h'.elim
                  | ok v μ5 =>
                    rw [ee] at h'
                    simp only at h'
                    intro w H6 ρ6 t6 r6
                    split at h'
                    · rename_i acc em
                      split at h'
                      · rename_i ks ek
                        split at h'
                        · rename_i hz
                          have hD6 : ρ6[μ1.length]? = some D := t6.ext.get (t5.ext.get (t4.ext.get (t2.ext.get hDr)))
                          obtain ⟨xs, q6, rr⟩ := dtt_of t6.mem hD6 em
                          obtain ⟨b, rfl, hb⟩ := tkeyU_ok (t6.v r5) ek
                          have t7 := putTi t6.mem hD6 em (rr.put hb r6)
                          exact ⟨xs, ks, b, rfl, hb, ⟨q6, rr.to.1⟩, by rw [rr.len]; exact lim_lt hz, ρ6, _, ((((t'.trans t2).trans t4).trans t5).trans t6).trans t7, Post.into ((((t2.trans t4).trans t5).trans t6).trans t7) h'⟩
                        · exact h'.elim
                      · exact h'.elim
                    · exact h'.elim
theorem ce_dcI {tg iter : Expr} {ifs : List Expr} {kx vx : Expr} {scope : Scope} {own : List (Str × Nat)} {pos : Pos} {mi : FI} {g : Tgt} {t : FT} {kk e : FE} (G : Good X W (k + 40)) (hN : X.N.Nodup) (ok : BlkOk X.N X.env.scope scope own) (hi : CI X W tg iter mi)
    (hg : ∀ s H0 C cl fp, CG (X.blk s H0 scope (compEnvC scope cl C X.env) fp) tg g) (ht : ∀ s H0 C cl fp, CTs (X.blk s H0 scope (compEnvC scope cl C X.env) fp) W0 ifs t)
    (hk : ∀ s H0 C cl fp, CE (X.blk s H0 scope (compEnvC scope cl C X.env) fp) W0 kx kk) (he : ∀ s H0 C cl fp, CE (X.blk s H0 scope (compEnvC scope cl C X.env) fp) W0 vx e) (hsub : subT g (own.map (·.2)) = true)
    (hs0 : ∀ x, foldedSetIterable iter X.env x = pure x := by intro _; rfl) : CE X W (.DictComp kx vx [⟨tg, iter, ifs, 0⟩] scope pos) (fDcI mi (own.map (·.2)) g t kk e) :=
  fun ρ μ s σ H Q hs hm h => ⟨_, pe_dcI G.calm (Nat.lt_of_succ_lt G.hu) hN pi_w ok pg_wb pts_wb pe_wb pe_wb hs0, dcI_reads hi hg ht hk he hsub hs hm h⟩
theorem cs_setDcI {i : Nat} {y : Str} {py : Pos} {tg iter : Expr} {ifs : List Expr} {kx vx : Expr} {scope : Scope} {own : List (Str × Nat)} {pos spos : Pos} {mi : FI} {g : Tgt} {t : FT} {kk e : FE} (G : Good X W (k + 40)) (hN : X.N.Nodup) (hy : X.N[i]? = some y) (hyl : X.env.scope.names.lookup y = some .local)
    (hsw : swapsWith (.DictComp kx vx [⟨tg, iter, ifs, 0⟩] scope pos) (some (.Name y py)) spos.line X.env = pure true) (ok : BlkOk X.N X.env.scope scope own) (hi : CI X W tg iter mi)
    (hg : ∀ s H0 C cl fp, CG (X.blk s H0 scope (compEnvC scope cl C X.env) fp) tg g) (ht : ∀ s H0 C cl fp, CTs (X.blk s H0 scope (compEnvC scope cl C X.env) fp) W0 ifs t)
    (hk : ∀ s H0 C cl fp, CE (X.blk s H0 scope (compEnvC scope cl C X.env) fp) W0 kx kk) (he : ∀ s H0 C cl fp, CE (X.blk s H0 scope (compEnvC scope cl C X.env) fp) W0 vx e) (hsub : subT g (own.map (·.2)) = true)
    (hs0 : ∀ x, foldedSetIterable iter X.env x = pure x := by intro _; rfl) :
    CS X W (.Assign [.Name y py] (.DictComp kx vx [⟨tg, iter, ifs, 0⟩] scope pos) spos) (sAsg (.one i) (fDcI mi (own.map (·.2)) g t kk e)) := by
  intro ρ μ s σ H D hs hm h
  refine ⟨_, ps_setDcI G.calm (Nat.lt_of_succ_lt G.hu) hN hy hyl hsw pi_w ok pg_wb pts_wb pe_wb pe_wb hs0, ?_⟩
  refine dcI_reads (W := W) hi hg ht hk he hsub hs hm ?_
  exact PostS.bind hs h fun u μ1 x H1 ρ1 t1 r1 h1 => h1 _ H1 ρ1 (Stp.refl t1.mem) ((t1.s hs).set r1)
end
end Dg
/-! Dn: pairs of ints: >=, sorted. -/
namespace Dg
open PySem PySem.Spec PyProof.Rows L2
def prU (p : Int × Int) : U := .tup [.int p.1, .int p.2]
def prsU : List U → Option (List (Int × Int))
  | [] => some []
  | .tup [.int a, .int b] :: us => (prsU us).map ((a, b) :: ·)
  | _ :: _ => none
theorem prsU_ok : ∀ {us : List U} {ps : List (Int × Int)}, prsU us = some ps → us = ps.map prU
  | [], _, e => by cases e; rfl
  | u :: us, ps, e => by
    unfold prsU at e
    split at e
    · rename_i h; cases h
    · rename_i a b us' h
      cases h
      obtain ⟨l, h, rfl⟩ := Option.map_eq_some_iff.mp e
      rw [List.map_cons, ← prsU_ok h]
      rfl
    · cases e
theorem prsU_map : ∀ ps : List (Int × Int), prsU (ps.map prU) = some ps
  | [] => rfl
  | p :: ps => by simp [prsU, prU, prsU_map ps]
/-- p before q -/
def ltPr (p q : Int × Int) : Bool := SrtO.lexB p q
def insP (x : Int × Int) : List (Int × Int) → List (Int × Int)
  | [] => [x]
  | y :: ys => if ltPr y x = true then y :: insP x ys else x :: y :: ys
def sortP : List (Int × Int) → List (Int × Int)
  | [] => []
  | x :: xs => insP x (sortP xs)
theorem insP_perm (x : Int × Int) : ∀ ys, (insP x ys).Perm (x :: ys)
  | [] => List.Perm.refl _
  | y :: ys => by
    unfold insP
    split
    · exact ((insP_perm x ys).cons y).trans (List.Perm.swap x y ys)
    · exact List.Perm.refl _
theorem sortP_perm : ∀ xs, (sortP xs).Perm xs
  | [] => List.Perm.refl _
  | x :: xs => (insP_perm x (sortP xs)).trans ((sortP_perm xs).cons x)
abbrev leP (x y : Int × Int) : Prop := ltPr y x = false
theorem leP_trans {x y z : Int × Int} (a : leP x y) (b : leP y z) : leP x z := by
  have a := SrtO.lexB_no.mp a
  have b := SrtO.lexB_no.mp b
  exact SrtO.lexB_no.mpr (by omega)
theorem leP_anti {x y : Int × Int} (a : leP x y) (b : leP y x) : x = y := by
  have a := SrtO.lexB_no.mp a
  have b := SrtO.lexB_no.mp b
  exact Prod.ext (by omega) (by omega)
theorem leP_of_lt {x y : Int × Int} (a : ltPr x y = true) : leP x y := by
  have a := SrtO.lexB_iff.mp a
  exact SrtO.lexB_no.mpr (by omega)
theorem insP_sorted (x : Int × Int) : ∀ ys : List (Int × Int), ys.Pairwise leP → (insP x ys).Pairwise leP
  | [], _ => by simp [insP]
  | y :: ys, h => by
    unfold insP
    rw [List.pairwise_cons] at h
    split
    · rename_i c
      rw [List.pairwise_cons]
      refine ⟨fun z hz => ?_, insP_sorted x ys h.2⟩
      rcases List.mem_cons.mp ((insP_perm x ys).mem_iff.mp hz) with e | e
      · rw [e]; exact leP_of_lt c
      · exact h.1 z e
    · rename_i c
      have c' : leP x y := by simpa using c
      rw [List.pairwise_cons, List.pairwise_cons]
      refine ⟨fun z hz => ?_, h⟩
      rcases List.mem_cons.mp hz with e | e
      · rw [e]; exact c'
      · exact leP_trans c' (h.1 z e)
theorem sortP_sorted : ∀ xs, (sortP xs).Pairwise leP
  | [] => .nil
  | x :: xs => insP_sorted x _ (sortP_sorted xs)
theorem uniqueP : ∀ {a b : List (Int × Int)}, a.Perm b → a.Pairwise leP → b.Pairwise leP → a = b
  | [], b, h, _, _ => (List.Perm.eq_nil h.symm).symm
  | x :: a, [], h, _, _ => absurd h.length_eq (by simp)
  | x :: a, y :: b, h, ha, hb => by
    rw [List.pairwise_cons] at ha hb
    have e : x = y := by
      have h1 : x ∈ y :: b := h.mem_iff.mp (List.mem_cons_self ..)
      have h2 : y ∈ x :: a := h.mem_iff.mpr (List.mem_cons_self ..)
      rcases List.mem_cons.mp h1 with e | h1
      · exact e
      · rcases List.mem_cons.mp h2 with e | h2
        · exact e.symm
        · exact leP_anti (ha.1 y h2) (hb.1 x h1)
    subst e
    rw [uniqueP h.cons_inv ha.2 hb.2]
section
variable {X : Cx} {W : WX} {k : Nat}
def rGeP (K : PySem.W.Frag) : R2 := fun x y H Q => ∃ (a b : Addr) (p q : Int × Int), x = .ref a ∧ y = .ref b ∧ SqT K H a [.int p.1, .int p.2] ∧ SqT K H b [.int q.1, .int q.2] ∧ Q (.bl (!ltPr p q)) H
theorem holds_pr {pins : List (Addr × Obj)} {σ : L2.St} {H : Hp} {s : Shared} {a : Addr} {p : Int × Int} (I : Inv X pins σ H s) (h : SqT X.K H a [.int p.1, .int p.2]) : PySem.W.Holds s.heap (.ref a) p := by
  obtain ⟨as, r⟩ := Dp.reads I (.tuple [.int p.1, .int p.2]) (.ref a) (.ref a) (.tup h (.cons (.int _) (.cons (.int _) .nil))) rfl
  exact ⟨as, r⟩
theorem op_geP (hu : X.A.units + 800 < cLine) : OpR X (compareOp .GtE) (rGeP X.K) := by
  intro pins s σ H x y v u Q I rx ry h
  obtain ⟨a, b, p, q, rfl, rfl, ha, hb, z⟩ := h
  obtain rfl : v = Value.ref a := rx
  obtain rfl : u = Value.ref b := ry
  refine PySem.W.ge_datum (holds_pr I ha) (holds_pr I hb) (Nat.lt_of_le_of_lt (Nat.add_le_add_left (by decide) _) hu) ⟨.bl (!ltPr p q), H, I, rfl, z⟩
def uGeX (u w : U) (μ : Mem) : Res U := match u, w with
  | .tup [.int a, .int b], .tup [.int c, .int d] => .ok (.bl (!ltPr (a, b) (c, d))) μ
  | u, w => uGe u w μ
theorem os_geX (G : Good X W (k + 40)) : OpS X W (compareOp .GtE) uGeX := by
  intro ρ μ σ H u w x y Q hm ru rw' h
  unfold uGeX at h
  split at h
  · rename_i a b c d
    cases ru with
    | tup h1 r1 =>
      cases rw' with
      | tup h2 r2 =>
        have e1 := RepVs.ints (is := [a, b]) r1
        have e2 := RepVs.ints (is := [c, d]) r2
        subst e1 e2
        exact ⟨_, op_geP G.un, _, _, (a, b), (c, d), rfl, rfl, h1, h2, h.ok (Stp.refl hm) .bl⟩
  · exact os_ge ρ μ σ H u w x y Q hm ru rw' h
/-- the pairs ps stand as tuples -/
abbrev PrA (K : PySem.W.Frag) (H : Hp) : List (Int × Int) → List V → Prop := Paired fun p x => ∃ t, x = V.ref t ∧ SqT K H t [.int p.1, .int p.2]
/-- sorted(xs), xs a list of pairs of ints -/
def rSortedPQ (K : PySem.W.Frag) : List V → Hp → VK → Prop := fun vs H Q => ∃ (a : Addr) (xs : List V) (ps : List (Int × Int)), vs = [V.ref a] ∧ SqL K H a xs ∧ PrA K H ps xs ∧
  ∀ ys p, PrA K H (sortP ps) ys → H p = none → Q (.ref p) (upd H p (.lst ys))
open Classical in
noncomputable def prK (K : PySem.W.Frag) (H : Hp) (x : V) : Int × Int := if h : ∃ (p : Int × Int) (t : Addr), x = V.ref t ∧ SqT K H t [.int p.1, .int p.2] then h.choose else (0, 0)
theorem prK_ok {K : PySem.W.Frag} {H : Hp} {x : V} {p : Int × Int} {t : Addr} (e : x = V.ref t) (h : SqT K H t [.int p.1, .int p.2]) : ∃ t', x = V.ref t' ∧ SqT K H t' [.int (prK K H x).1, .int (prK K H x).2] := by
  have ex : ∃ (p : Int × Int) (t : Addr), x = V.ref t ∧ SqT K H t [.int p.1, .int p.2] := ⟨p, t, e, h⟩
  unfold prK
  rw [dif_pos ex]
  exact ex.choose_spec
theorem PrA.mk {K : PySem.W.Frag} {H : Hp} (f : V → Int × Int) : ∀ {ys : List V}, (∀ y ∈ ys, ∃ t, y = V.ref t ∧ SqT K H t [.int (f y).1, .int (f y).2]) → PrA K H (ys.map f) ys
  | [], _ => .nil
  | y :: ys, all => .cons (all y (List.mem_cons_self ..)) (PrA.mk f fun z hz => all z (List.mem_cons_of_mem _ hz))
theorem cr_sortedPQ : CallR X (.builtin "sorted") (rSortedPQ X.K) := by
  intro pins s σ H vs us Q I r h
  obtain ⟨a, xs, ps, rfl, hs, hps, q⟩ := h
  obtain ⟨its, rv, hl, hz⟩ := I.list hs
  obtain ⟨u, rfl, ru⟩ := vals1 r
  obtain rfl : u = Value.ref a := ru
  -- the pair of each
  have hk : ps = xs.map (prK X.K H) ∧ ∀ x ∈ xs, ∃ t, x = V.ref t ∧ SqT X.K H t [.int (prK X.K H x).1, .int (prK X.K H x).2] := by
    clear hs rv hl q r hz
    induction hps with
    | nil => exact ⟨rfl, fun _ h => nomatch h⟩
    | @cons p x ps xs h t ih =>
      obtain ⟨a, rfl, ha⟩ := h
      obtain ⟨a', e, ha'⟩ := prK_ok rfl ha
      cases e
      have e := I.tuple_inj ha ha'
      simp only [List.cons.injEq, V.int.injEq, and_true] at e
      have ep : p = prK X.K H (V.ref a) := Prod.ext e.1 e.2
      refine ⟨by rw [List.map_cons, ← ep, ← ih.1], fun y hy => ?_⟩
      rcases List.mem_cons.mp hy with rfl | hy
      · exact ⟨a, rfl, ha'⟩
      · exact ih.2 y hy
  obtain ⟨ek, hx⟩ := hk
  obtain ⟨e1, e2⟩ := refs_back rv fun x m => let ⟨t, e, _⟩ := hx x m; ⟨t, e⟩
  refine SrtO.sorted_pairsO (k := fun u => prK X.K H (backV u)) hl.isList (by rw [← rv.length]; exact hz) (fun v hv => ?_) fun h' d out h1 h2 kp hd hn => ?_
  · obtain ⟨t, rfl⟩ := e2 v hv
    obtain ⟨t', e, ht⟩ := hx (V.ref t) (by rw [e1]; exact List.mem_map.mpr ⟨_, hv, rfl⟩)
    cases e
    obtain ⟨its2, r2, ⟨o, ho, hc, n, hd⟩, _⟩ := I.tuple ht
    obtain ⟨u1, u2, rfl, ⟨t1, rfl⟩, ⟨t2, rfl⟩⟩ := vals2 r2
    exact ⟨t, o, t1, t2, n, rfl, ho, hc, hd⟩
  · have h3 : ∀ u ∈ out, ∃ a, u = Value.ref a := fun u hu => e2 u (h2.perm.mem_iff.mp hu)
    obtain ⟨n, hn⟩ := hn
    have pm : (out.map backV).Perm xs := by rw [e1]; exact h2.perm.map _
    have sd : ((out.map backV).map (prK X.K H)).Pairwise leP := by
      have := SrtO.srtd_map (lt := ltP (prK X.K H)) h1
      exact List.pairwise_map.mpr this
    have es : sortP ps = (out.map backV).map (prK X.K H) := uniqueP (((sortP_perm ps).trans (List.Perm.of_eq ek)).trans (pm.map _).symm) (sortP_sorted ps) sd
    refine ⟨.ref d, upd H d (.lst (out.map backV)), I.laid (t' := s.toks) kp hd ⟨by rw [pm.length_eq]; exact hz, out, n, vals_back h3, hn⟩, rfl, q _ d ?_ (I.hok.fresh hd)⟩
    rw [es]
    exact PrA.mk _ fun y hy => hx y (pm.mem_iff.mp hy)
theorem PrA.of {K : PySem.W.Frag} {H : Hp} {ρ : List Addr} : ∀ {ps : List (Int × Int)} {xs : List V}, RepVs K H ρ (ps.map prU) xs → PrA K H ps xs
  | [], _, r => by cases r; exact .nil
  | p :: ps, _, r => by
    rw [List.map_cons] at r
    cases r with
    | cons r rr =>
      cases r with
      | tup h r2 =>
        have e := RepVs.ints (is := [p.1, p.2]) r2
        subst e
        exact .cons ⟨_, rfl, h⟩ (PrA.of rr)
theorem PrA.to {K : PySem.W.Frag} {H : Hp} {ρ : List Addr} {ps : List (Int × Int)} {xs : List V} (r : PrA K H ps xs) : RepVs K H ρ (ps.map prU) xs := by
  induction r with
  | nil => exact .nil
  | cons h t ih =>
    obtain ⟨a, rfl, h⟩ := h
    exact .cons (.tup h (RepVs.ofInts [_, _])) ih
def bSortedX (us : List U) (μ : Mem) : Res U := match us with
  | [u] => match lstU μ u with
    | some xs => match prsU xs with
      | some ps => .ok (.ref μ.length) (μ ++ [.lst ((sortP ps).map prU)])
      | none => bSorted [u] μ
    | none => bSorted [u] μ
  | us => bSorted us μ
theorem cs_sortedX (hc : X.calm = true) : CallS X W (.builtin "sorted") bSortedX := by
  intro ρ μ σ H us vs Q hm r h
  unfold bSortedX at h
  split at h
  · rename_i u
    cases e1 : lstU μ u with
    | none => rw [e1] at h; exact cs_sorted hc ρ μ σ H _ vs Q hm r h
    | some xs =>
      rw [e1] at h
      simp only at h
      cases e2 : prsU xs with
      | none => rw [e2] at h; exact cs_sorted hc ρ μ σ H _ vs Q hm r h
      | some ps =>
        rw [e2] at h
        cases r with
        | cons ru r0 =>
          cases r0
          obtain ⟨a, ws, rfl, hq, rr⟩ := lstU_ok hm ru e1
          rw [prsU_ok e2] at rr
          exact ⟨_, cr_sortedPQ, a, ws, ps, rfl, hq, PrA.of rr, fun ys p hy hp => h.ok (newL hm hp (PrA.to hy)) (refN hm)⟩
  · exact cs_sorted hc ρ μ σ H _ vs Q hm r h
end
end Dg
/-! Dv: a walk over reversed(x), x a list or a tuple. -/
namespace Dg
open PySem PySem.Spec PyProof.Rows L2
theorem it_rev {K : PySem.W.Frag} {H : Hp} {ρ : List Addr} {r n : Nat} {a : Addr} (hr : ρ[r]? = some a) : ItOk K ρ H (.rev r n) (Itv K a n) := by
  intro i ρ' H' μ' ex tx hm
  simp only [itemAt]
  cases e : listAt μ' r with
  | none => trivial
  | some us =>
    obtain ⟨vs, q, rr⟩ := listAt_ok hm (ex.get hr) e
    simp only [Option.bind_some]
    by_cases hi : i < n
    · rw [if_pos hi]
      cases eu : us[n - 1 - i]? with
      | none => trivial
      | some u =>
        obtain ⟨v, q2, r2⟩ := rr.get eu
        refine ⟨⟨hi, vs, v, q, q2⟩, fun x H'' y => ?_⟩
        obtain ⟨rfl, hx⟩ := y
        have := hx vs q
        rw [q2] at this
        cases this
        exact ⟨Stp.refl hm, r2⟩
    · rw [if_neg hi]
      exact Nat.le_of_not_lt hi
theorem rev_get {α : Type} {us : List α} {i : Nat} (h : i < us.length) : us.reverse[i]? = us[us.length - 1 - i]? := by
  rw [List.getElem?_reverse h]
theorem it_revT {K : PySem.W.Frag} {H : Hp} {ρ : List Addr} {a : Addr} {us : List U} {vs : List V} (hs : SqT K H a vs) (hr : RepVs K H ρ us vs) : ItOk K ρ H (.seq us.reverse) (RT.ItvT K a us.length) := by
  intro i ρ' H' μ' ex tx hm
  simp only [itemAt]
  have hs' := tx.seq hs
  have hr' := hr.mono tx ex
  by_cases hi : i < us.length
  · rw [rev_get hi]
    have hj : us.length - 1 - i < us.length := by omega
    rw [List.getElem?_eq_getElem hj]
    obtain ⟨v, q2, r2⟩ := hr'.get (List.getElem?_eq_getElem hj)
    refine ⟨⟨hi, vs, v, hs', q2⟩, fun x H'' y => ?_⟩
    obtain ⟨rfl, hx⟩ := y
    have := hx vs hs'
    rw [q2] at this
    cases this
    exact ⟨Stp.refl hm, r2⟩
  · rw [List.getElem?_eq_none (by simp; omega)]
    exact Nat.le_of_not_lt hi
section
variable {X : Cx} {W : WX}
def iRevL (a : FE) : FI := fun s μ => (a s μ).bind fun u μ1 => match u with
  | .tup us => .ok (.seq us.reverse) μ1
  | .ref r => match listAt μ1 r with
    | some us => .ok (.rev r us.length) μ1
    | none => .bad
  | _ => .bad
theorem ci_rev {tg e : Expr} {me : FE} {p pos : Pos} (he : CE X W e me) (hp : ∀ {te : TE}, PE X e te → PI X tg (.Call (.Name "reversed" p) [e] [] pos) (RT.iRevA X.K te)) : CI X W tg (.Call (.Name "reversed" p) [e] [] pos) (iRevL me) := by
  intro ρ μ s σ H R hs hm h
  refine ⟨_, hp pe_w, ?_⟩
  refine he ρ μ s σ H _ hs hm (h.bind fun u μ1 x H1 ρ1 t1 r1 h1 => ?_)
  split at h1
  · rename_i us
    cases r1 with
    | tup h2 r2 =>
      refine ⟨_, _, rfl, .inr ⟨h2, ?_⟩⟩
      have e := r2.length
      rw [← e]
      exact h1.ok (Stp.refl t1.mem) (it_revT h2 r2)
  · rename_i r
    cases r1 with
    | ref hr =>
      split at h1
      · rename_i us e
        obtain ⟨vs, q, rr⟩ := listAt_ok t1.mem hr e
        refine ⟨_, vs, rfl, .inl ⟨q, ?_⟩⟩
        rw [← rr.length]
        exact h1.ok (Stp.refl t1.mem) (it_rev hr)
      · exact h1.elim
  · exact h1.elim
/-! ### more that a suite may ask of the caught error -/
variable {i : Nat} {a : Addr}
theorem at_op {op : Operator} {e b : Expr} {f : U → U → Mem → Res U} {ma mb : FE} {pos : Pos} (ho : OpS X W (binaryOp op) f) (ha : CEat X W i a e ma) (hb : CEat X W i a b mb) : CEat X W i a (.BinOp e op b pos) (fOp f ma mb) := by
  intro ρ μ s σ H Q hi hs hm h
  refine ⟨_, pe_op op_w pe_w pe_w, ?_⟩
  refine ha ρ μ s σ H _ hi hs hm (h.bind fun u μ1 x H1 ρ1 t1 r1 h1 => ?_)
  refine hb ρ1 μ1 s σ H1 _ hi (t1.s hs) t1.mem (h1.bind fun w μ2 y H2 ρ2 t2 r2 h2 => ?_)
  exact ho ρ2 μ2 σ H2 u w x y Q t2.mem (t2.v r1) r2 h2
theorem at_callT {T : String} {x : Str} {e : Expr} {me : FE} {g : List U → Mem → Res U} {p pos : Pos} (hc : CallS X W (.type T) g) (he : CEat X W i a e me)
    (hp : ∀ {r : List V → Hp → VK → Prop} {t : TA}, CallR X (.type T) r → PA X [e] t → PE X (.Call (.Name x p) [e] [] pos) (tCB r t)) (hse : starEach (e :: []) X.env = (false, eval e X.env) :: starEach [] X.env := by rfl) : CEat X W i a (.Call (.Name x p) [e] [] pos) (fCall g (aCons me aNil)) := by
  intro ρ μ s σ H Q hi hs hm h
  refine ⟨_, hp call_w (pa_cons pe_w pa_nil hse), ?_⟩
  have h' : Post X W σ relV ρ H ((me s μ).bind fun u μ1 => g [u] μ1) Q := by
    have : fCall g (aCons me aNil) s μ = (me s μ).bind fun u μ1 => g [u] μ1 := by
      unfold fCall aCons aNil
      cases me s μ <;> rfl
    rw [← this]; exact h
  refine he ρ μ s σ H _ hi hs hm (h'.bind fun u μ1 x H1 ρ1 t1 r1 h1 => ?_)
  exact hc ρ1 μ1 σ H1 [u] [x] Q t1.mem (.cons r1 .nil) h1
end
end Dg
/-! Dz: zip of a tuple and a list. -/
namespace Dg
open PySem PySem.Spec PyProof.Rows L2 RZ
def ItzM (K : PySem.W.Frag) (ta la : Addr) : It where
  go := fun n H => ∃ (us ws : List V) (p q : V), (SqT K H ta us ∧ us[n]? = some p) ∧ SqL K H la ws ∧ ws[n]? = some q
  yld := fun n H v H' => ∃ c p q, (v = .ref c ∧ H c = none ∧ H' = upd H c (.tup [p, q])) ∧ (∀ us, SqT K H ta us → us[n]? = some p) ∧ (∀ ws, SqL K H la ws → ws[n]? = some q)
  stop := fun n H => ∃ us ws : List V, (SqT K H ta us ∧ SqL K H la ws) ∧ (us.length ≤ n ∨ ws.length ≤ n)
section
variable {P : Program} {w : World} {A : Around}
/-- draws of a tuple iterator from the place n on -/
theorem drT (hh : A.handled = none) {i a : Addr} (ne : a ≠ i) (its : Array Value) (n : Nat) : ∃ m Pv St, Draws P w A i [i, a] m Pv St ∧ n ≤ m ∧ (its.size ≤ n → n = m) ∧ (n < its.size → n < m) ∧ (∀ h : Heap, h.IsTupleIter i a n → h.IsTuple a its → St n h) ∧ (∀ x, Pv n x → its[n]? = some x) ∧ (∀ h : Heap, n < its.size → St (n + 1) h → h.IsTupleIter i a (n + 1)) := by
  by_cases lt : n < its.size
  · exact ⟨_, _, _, Draws.tuple hh i a ne its, by omega, by omega, fun _ => lt, fun h a b => ⟨a, b⟩, fun x e => e, fun h _ s => s.1⟩
  · refine ⟨n, fun _ _ => False, fun j h => j = n ∧ h.IsTupleIter i a j ∧ h.IsTuple a its, ⟨?_, ?_, ?_, ?_⟩, Nat.le_refl _, fun _ => rfl, fun h => absurd h lt, fun h a b => ⟨rfl, a, b⟩, fun x e => e.elim, fun h l => absurd l lt⟩
    · rintro j h ⟨_, ⟨o, ho, _⟩, _⟩; exact ⟨o, ho⟩
    · rintro j h h' ⟨e, s1, s2⟩ k; exact ⟨e, s1.at fun o q => k i (by simp) o q, s2.at fun o q => k a (by simp) o q⟩
    · rintro j s Q E hj ⟨e, _⟩; omega
    · rintro s Q E ⟨_, s1, s2⟩ hE
      exact wpAny_nextOf_tuple_end hh s1 s2 (by simp; omega) hE
/-- the same of a list -/
theorem drL (hh : A.handled = none) {i a : Addr} (ne : a ≠ i) (its : Array Value) (n : Nat) : ∃ m Pv St, Draws P w A i [i, a] m Pv St ∧ n ≤ m ∧ (its.size ≤ n → n = m) ∧ (n < its.size → n < m) ∧ (∀ h : Heap, h.IsListIter i a n → h.IsList a its → St n h) ∧ (∀ x, Pv n x → its[n]? = some x) ∧ (∀ h : Heap, n < its.size → St (n + 1) h → h.IsListIter i a (n + 1)) := by
  by_cases lt : n < its.size
  · exact ⟨_, _, _, Draws.list hh i a ne its, by omega, by omega, fun _ => lt, fun h a b => ⟨a, b⟩, fun x e => e, fun h _ s => s.1⟩
  · refine ⟨n, fun _ _ => False, fun j h => j = n ∧ h.IsListIter i a j ∧ h.IsList a its, ⟨?_, ?_, ?_, ?_⟩, Nat.le_refl _, fun _ => rfl, fun h => absurd h lt, fun h a b => ⟨rfl, a, b⟩, fun x e => e.elim, fun h l => absurd l lt⟩
    · rintro j h ⟨_, ⟨o, ho, _⟩, _⟩; exact ⟨o, ho⟩
    · rintro j h h' ⟨e, s1, s2⟩ k; exact ⟨e, s1.at fun o q => k i (by simp) o q, s2.at fun o q => k a (by simp) o q⟩
    · rintro j s Q E hj ⟨e, _⟩; omega
    · rintro s Q E ⟨_, s1, s2⟩ hE
      exact wpAny_nextOf_list_end hh s1 s2 (by simp; omega) hE
/-- where the zip stands -/
def ZmSt (z ti to i1 i2 a b : Addr) (n : Nat) (h : Heap) : Prop := (IsZip h z ti to .none ∧ IsTupOf2 h ti (.ref i1) (.ref i2)) ∧ (∃ p q, IsTupOf2 h to p q) ∧ h.IsTupleIter i1 a n ∧ h.IsListIter i2 b n
theorem turn_zipM {K : PySem.W.Frag} {es : List Expr} {kk : Nat} {tp : Pos} {a b z ti to i1 i2 : Addr} (S : ZipSep2 z ti to i1 i2 [i1, a] [i2, b]) (ne1 : a ≠ i1) (ne2 : b ≠ i2) :
    Turn P w K (.Tuple es kk tp) (ItzM K a b) [z, ti, to, i1, i2] z (ZmSt z ti to i1 i2 a b) where
  mem := List.mem_cons_self
  obj := by
    rintro n h ⟨⟨s1, s2⟩, ⟨p, q, s3⟩, ⟨o1, e1, _, d1⟩, ⟨o2, e2, _, d2⟩⟩ c hc
    simp only [List.mem_cons, List.not_mem_nil, or_false] at hc
    rcases hc with rfl | rfl | rfl | rfl | rfl
    · exact ⟨_, s1, fun v h => nomatch h⟩
    · exact ⟨_, s2, fun v h => nomatch h⟩
    · exact ⟨_, s3, fun v h => nomatch h⟩
    · exact ⟨o1, e1, fun v h => by rw [d1] at h; cases h⟩
    · exact ⟨o2, e2, fun v h => by rw [d2] at h; cases h⟩
  keep := by
    rintro n h h' ⟨⟨s1, s2⟩, ⟨p, q, s3⟩, s4, s5⟩ k
    exact ⟨⟨k z (by simp) _ s1, k ti (by simp) _ s2⟩, ⟨p, q, k to (by simp) _ s3⟩, s4.at fun o e => k i1 (by simp) o e, s5.at fun o e => k i2 (by simp) o e⟩
  item := by
    intro X hP hw hK hc n pins s σ H E I hf st hg
    subst hP hw hK
    obtain ⟨⟨s1, s2⟩, ⟨p0, q0, s3⟩, s4, s5⟩ := st
    obtain ⟨us, ws, p, q, ⟨qu, hp⟩, qw, hq⟩ := hg
    obtain ⟨its, rv, pt, _⟩ := I.tuple qu
    obtain ⟨itw, rw', pl, _⟩ := I.list qw
    obtain ⟨u, hu, ru⟩ := rv.get hp
    obtain ⟨w2, hw2, rw2⟩ := rw'.get hq
    have lu : n < its.toArray.size := by simpa using (List.getElem?_eq_some_iff.mp hu).1
    have lw : n < itw.toArray.size := by simpa using (List.getElem?_eq_some_iff.mp hw2).1
    have hh : X.A.in1.handled = none := I.ok.hd hc
    obtain ⟨m1, P1, S1, D1, _, _, l1, b1, c1, e1⟩ := drT (P := X.prog) (w := X.w) hh ne1 its.toArray n
    obtain ⟨m2, P2, S2, D2, _, _, l2, b2, c2, e2⟩ := drL (P := X.prog) (w := X.w) hh ne2 itw.toArray n
    have hzl : z < s.heap.objs.size := Heap.lt_size s1
    refine wpAny_pyNext_zipD2_item S D1 D2 s1 s2 s3 (b1 _ s4 pt) (b2 _ s5 pl.isList) (l1 lu) (l2 lw) fun x1 x2 h' tk y1 y2 z' to' k1 k2 hT hsz hk => ?_
    have ex1 : x1 = u := by
      have := c1 _ y1
      simp only [List.getElem?_toArray, hu] at this
      cases this; rfl
    have ex2 : x2 = w2 := by
      have := c2 _ y2
      simp only [List.getElem?_toArray, hw2] at this
      cases this; rfl
    subst ex1 ex2
    refine ⟨_, rfl, wpAny_letOwnedTupleGo_zip (s := { s with heap := h', toks := tk }) z' fun h2 z2 sb => ?_⟩
    have hT2 : IsTupOf2 h2 s.heap.objs.size x1 x2 := (sb.2 _ (Nat.ne_of_gt hzl)).trans hT
    have nw : ObjOk X.prog X.w (upd H s.heap.objs.size (.tup [p, q])) h2 s.heap.objs.size (.tup [p, q]) := ⟨by show 2 ≤ sizeLine; decide, [x1, x2], .cons ru (.cons rw2 .nil), ⟨_, hT2, rfl, _, rfl⟩⟩
    have kk : ∀ c o, c ∉ [z, ti, to, i1, i2] → s.heap.get? c = some o → h2.get? c = some o := fun c o nb e => by
      simp only [List.mem_cons, List.not_mem_nil, or_false, not_or] at nb
      exact (sb.2 _ nb.1).trans (hk c o nb.1 nb.2.2.1 nb.2.2.2.1 nb.2.2.2.2 e)
    have I1 : Inv X pins σ (upd H s.heap.objs.size (.tup [p, q])) { s with heap := h2, toks := tk } := I.turnedNew kk hf (Nat.le_refl _) nw
    refine ⟨.ref s.heap.objs.size, _, I1, rfl, ⟨_, p, q, ⟨rfl, I.hok.fresh (Nat.le_refl _), rfl⟩, fun l hl => by rw [I.tuple_inj hl qu]; exact hp, fun l hl => by rw [I.list_inj hl qw]; exact hq⟩, ?_, fun c hcm => ?_⟩
    · exact ⟨⟨z2, (sb.2 _ S.TIz).trans (hk _ _ S.TIz S.TITO S.TIi1 S.TIi2 s2)⟩, ⟨x1, x2, (sb.2 _ S.TOz).trans to'⟩, (e1 _ lu k1).at fun o e => (sb.2 _ S.zi1.symm).trans e, (e2 _ lw k2).at fun o e => (sb.2 _ S.zi2.symm).trans e⟩
    · have hlt : c < s.heap.objs.size := by
        simp only [List.mem_cons, List.not_mem_nil, or_false] at hcm
        rcases hcm with rfl | rfl | rfl | rfl | rfl
        · exact hzl
        · exact Heap.lt_size s2
        · exact Heap.lt_size s3
        · obtain ⟨_, g, _⟩ := s4; exact Heap.lt_size g
        · obtain ⟨_, g, _⟩ := s5; exact Heap.lt_size g
      rw [upd_ne (Nat.ne_of_lt hlt)]
      exact (hf c hcm).1
  done := by
    intro X hP hw hK hc n pins s σ H E I hf st hg
    subst hP hw hK
    obtain ⟨⟨s1, s2⟩, ⟨p0, q0, s3⟩, s4, s5⟩ := st
    obtain ⟨us, ws, ⟨qu, qw⟩, hend⟩ := hg
    obtain ⟨its, rv, pt, _⟩ := I.tuple qu
    obtain ⟨itw, rw', pl, _⟩ := I.list qw
    have hh : X.A.in1.handled = none := I.ok.hd hc
    obtain ⟨m1, P1, S1, D1, a1, f1, _, b1, _⟩ := drT (P := X.prog) (w := X.w) hh ne1 its.toArray n
    obtain ⟨m2, P2, S2, D2, a2, f2, _, b2, _⟩ := drL (P := X.prog) (w := X.w) hh ne2 itw.toArray n
    have n1 := rv.length
    have n2 := rw'.length
    have he : n = m1 ∨ n = m2 := hend.elim (fun h => .inl (f1 (by simp; omega))) (fun h => .inr (f2 (by simp; omega)))
    refine wpAny_pyNext_zipD2_end S D1 D2 s1 s2 s3 (b1 _ s4 pt) (b2 _ s5 pl.isList) a1 a2 he fun h' tk hk => ⟨rfl, I.turnedL (t' := tk) (ch := [z, ti, to, i1, i2]) (fun c o nb e => ?_) hf⟩
    simp only [List.mem_cons, List.not_mem_nil, or_false, not_or] at nb
    exact hk c o nb.1 nb.2.2.1 nb.2.2.2.1 nb.2.2.2.2 e
  self := fun A n s Q E st q => wpAny_pyIter_zip st.1.1 q
end
def iZipMA (K : PySem.W.Frag) (ta : TA) : TI := fun σ H R => ta σ H fun vs H1 => ∃ a b us ws, vs = [.ref a, .ref b] ∧ (SqT K H1 a us ∧ SqL K H1 b ws) ∧ R (ItzM K a b) H1
theorem pi_zipM {X : Cx} {e1 e2 : Expr} {ta : TA} {p pos tp : Pos} {es : List Expr} {kk : Nat} (gz : Gl X "zip") (mz : X.mg "zip" = none) (pa : PA X [e1, e2] ta)
    (st : starEach [e1, e2] X.env = (false, eval e1 X.env) :: starEach [e2] X.env := by rfl) (bk : (backTo pos (starEach [e2] X.env)).any (·.1) = false := by rfl) : PI X (.Tuple es kk tp) (.Call (.Name "zip" p) [e1, e2] [] pos) (iZipMA X.K ta) := by
  refine ⟨fun pins s σ H R I h => Call_ (ld_blt I gz mz PyProof.Rows.boot_zip (PyProof.Rows.callWith_type1 (thn (pa.run pos pins s σ H _ I h) ?_) st bk))⟩
  rintro us s1 ⟨vs, H1, I1, r1, a, b, ps, qs, rfl, ⟨hp, hq⟩, hR⟩
  cases r1 with
  | cons ra rr =>
    cases rr with
    | cons rb rz =>
      cases rz; cases ra; cases rb
      obtain ⟨its, rv, pt, _⟩ := I1.tuple hp
      obtain ⟨itw, rw', pl, _⟩ := I1.list hq
      have la : a < s1.heap.objs.size := by obtain ⟨o, e, _⟩ := id pt; exact Heap.lt_size e
      have lb : b < s1.heap.objs.size := pl.lt
      refine zip_begins2 (begins_tuple a its.toArray) (begins_list b itw.toArray) pt pl.isList fun h' s1' s2' s3' g1 g2 hz hk => wpAny_pyIter_zip s1' ?_
      have I2 : Inv X pins σ H1 { s1 with heap := h' } := I1.kept (t' := s1.toks) hk
      have fresh : ∀ c, c ∈ [s1.heap.objs.size + 4, s1.heap.objs.size + 2, s1.heap.objs.size + 3, s1.heap.objs.size, s1.heap.objs.size + 1] → FpOk X pins H1 c := fun c hc => by
        have le : s1.heap.objs.size ≤ c := by
          simp only [List.mem_cons, List.not_mem_nil, or_false] at hc
          rcases hc with h | h | h | h | h <;> (rw [h]; first | exact Nat.le_refl _ | exact Nat.le_add_right _ _)
        exact I1.fpOk le (I1.hok.fresh le)
      exact ⟨_, _, _, _, H1, rfl, I2, turn_zipM (zip_sep2 (fp1 := [a]) (fp2 := [b]) (fun c hc => by rw [List.mem_singleton.mp hc]; exact la) (fun c hc => by rw [List.mem_singleton.mp hc]; exact lb)) (Nat.ne_of_lt la) (Nat.ne_of_lt (Nat.lt_succ_of_lt lb)), ⟨⟨s1', s2'⟩, ⟨_, _, s3'⟩, ⟨_, g1, rfl, rfl⟩, ⟨_, g2, rfl, rfl⟩⟩, fresh, hR⟩
theorem it_zipM {K : PySem.W.Frag} {H : Hp} {ρ : List Addr} {a b : Addr} {us : List U} {vs : List V} {r : Nat} (hs : SqT K H a vs) (hr : RepVs K H ρ us vs) (h2 : ρ[r]? = some b) : ItOk K ρ H (.zipM us r) (ItzM K a b) := by
  intro i ρ' H' μ' ex tx hm
  simp only [itemAt]
  have hs' := tx.seq hs
  have hr' := hr.mono tx ex
  cases e2 : listAt μ' r with
  | none => trivial
  | some ws =>
    obtain ⟨xs, q2, rr2⟩ := listAt_ok hm (ex.get h2) e2
    simp only
    cases eu : us[i]? with
    | none =>
      refine ⟨vs, xs, ⟨hs', q2⟩, .inl ?_⟩
      rw [← hr'.length]
      exact List.getElem?_eq_none_iff.mp eu
    | some u =>
      cases ew : ws[i]? with
      | none =>
        refine ⟨vs, xs, ⟨hs', q2⟩, .inr ?_⟩
        rw [← rr2.length]
        exact List.getElem?_eq_none_iff.mp ew
      | some w =>
        obtain ⟨v, q3, r3⟩ := hr'.get eu
        obtain ⟨v2, q4, r4⟩ := rr2.get ew
        refine ⟨⟨vs, xs, v, v2, ⟨hs', q3⟩, q2, q4⟩, fun x H'' y => ?_⟩
        obtain ⟨c, x1, y1, ⟨rfl, nT, rfl⟩, f1, f2⟩ := y
        have g1 := f1 vs hs'
        rw [q3] at g1
        cases g1
        have g2 := f2 xs q2
        rw [q4] at g2
        cases g2
        exact ⟨Stp.temp hm nT, newT nT (.cons r3 (.one r4))⟩
section
variable {X : Cx} {W : WX}
/-- zip of a tuple and a list -/
def iZipM (a b : FE) : FI := fun s μ => (a s μ).bind fun u μ1 => (b s μ1).bind fun w μ2 => match u, w with
  | .tup us, .ref r => match listAt μ2 r with
    | some _ => .ok (.zipM us r) μ2
    | none => .bad
  | _, _ => .bad
theorem ci_zipM {tg a b : Expr} {ma mb : FE} {p pos : Pos} (ha : CE X W a ma) (hb : CE X W b mb)
    (hp : ∀ {ta : TA}, PA X [a, b] ta → PI X tg (.Call (.Name "zip" p) [a, b] [] pos) (iZipMA X.K ta)) (hs1 : starEach [a, b] X.env = (false, eval a X.env) :: starEach [b] X.env := by rfl) (hs2 : starEach [b] X.env = (false, eval b X.env) :: starEach [] X.env := by rfl) :
    CI X W tg (.Call (.Name "zip" p) [a, b] [] pos) (iZipM ma mb) := by
  intro ρ μ s σ H R hs hm h
  refine ⟨_, hp (pa_cons pe_w (pa_cons pe_w pa_nil hs2) hs1), ?_⟩
  refine ha ρ μ s σ H _ hs hm (h.bind fun u μ1 x H1 ρ1 t1 r1 h1 => ?_)
  refine hb ρ1 μ1 s σ H1 _ (t1.s hs) t1.mem (h1.bind fun w μ2 y H2 ρ2 t2 r2 h2 => ?_)
  have r1' := t2.v r1
  split at h2
  · cases r1' with
    | tup a1 a2 => cases r2 with
      | ref b1 =>
        split at h2
        · rename_i e2
          obtain ⟨xs, q2, _⟩ := listAt_ok t2.mem b1 e2
          exact ⟨_, _, _, _, rfl, ⟨a1, q2⟩, h2.ok (Stp.refl t2.mem) (it_zipM a1 a2 b1)⟩
        · exact h2.elim
  · exact h2.elim
end
end Dg
/-! Dt: try with several except clauses, with or without names. -/
namespace Dg
open PySem PySem.Spec PyProof.Rows L2
abbrev Hd3 := Value × Option Nat × (Addr → Value → Option Addr → TS)
/-- what goes on behind a suite that held a name -/
def behind (D : Ends) (i : Nat) : Ends := { nx := fun s H => D.nx (s.set i none) H, rt := D.rt, bk := fun s H => D.bk (s.set i none) H, ct := fun s H => D.ct (s.set i none) H }
def wMix (K : PySem.W.Frag) (W : WX) (D : Ends) : List Hd3 → WX
  | [] => W
  | (c, none, ts) :: l => fun t d σ H => ∃ y, PySem.W.exmOne K t c = some y ∧ (y = true → ∀ p, H p = none → ts p t d D σ H) ∧ (y = false → wMix K W D l t d σ H)
  | (c, some i, ts) :: l => fun t d σ H => ∃ y, PySem.W.exmOne K t c = some y ∧ (y = true → ∀ p, H p = none → ts p t d (behind D i) (σ.set i (some (.ref p))) H) ∧ (y = false → wMix K W D l t d σ H)
def SuOk (X : Cx) (su : List Stmt) (ts : Addr → Value → Option Addr → TS) : Prop := ∀ (p : Addr) (oe : Obj) (t : Value) (d : Option Addr) (pn : List (Addr × Obj)), Zc t d oe → (∃ vs, oe.data = .fields vs) → PSs (X.suite p ((p, oe) :: pn)) su (ts p t d)
inductive HdsMix (X : Cx) : List ExceptHandler → List Hd3 → Prop
  | nil : HdsMix X [] []
  | bare {x : Str} {c : Value} {ts : Addr → Value → Option Addr → TS} {b : Stmt} {su : List Stmt} {np q : Pos} {hds : List ExceptHandler} {l : List Hd3} : Names X x c → SuOk X (b :: su) ts → HdsMix X hds l → HdsMix X (.ExceptHandler (some (.Name x np)) none (b :: su) q :: hds) ((c, none, ts) :: l)
  | named {x n : Str} {i : Nat} {c : Value} {ts : Addr → Value → Option Addr → TS} {b : Stmt} {su : List Stmt} {np q : Pos} {hds : List ExceptHandler} {l : List Hd3} : Names X x c → X.N[i]? = some n → X.env.kindOf n = some .local → SuOk X (b :: su) ts → HdsMix X hds l → HdsMix X (.ExceptHandler (some (.Name x np)) (some n) (b :: su) q :: hds) ((c, some i, ts) :: l)
theorem ps_try_mix {X : Cx} {body : List Stmt} {h0 : ExceptHandler} {hds : List ExceptHandler} {l : List Hd3} {pos : Pos} {tb : WX → TS} {W : WX} (st : X.stack = X.env :: X.outer) (fr : X.env.frame = some X.env.locals) (nd : X.N.Nodup) (tk : Takes X W)
    (hb : ∀ (W' : WX) (pn : List (Addr × Obj)) (xe : Value → Shared → Prop), Takes (X.tr pn xe) W' → PassesOwn (model X.prog X.w) X.A X.env xe → PSs (X.tr pn xe) body (tb W')) (ok3 : HdsMix X (h0 :: hds) l) : PS X (.Try body (h0 :: hds) [] [] pos) (fun D σ H => tb (wMix X.K W D l) D σ H) := by
  refine ⟨fun pins s σ H D I h => ?_⟩
  have io := I.ok
  have hA : X.A.frames = some (X.env :: X.outer) := io.frames.trans (by rw [st])
  refine wpAny_Try_except (wpAny_mono ((hb (wMix X.K W D l) (X.pn ++ pins) (fun e s₁ => wpAny (model X.prog X.w) X.A (noteFrame e X.env) (fun _ s₂ => wpAny (model X.prog X.w) X.A (setFlight e none) (fun _ s₃ => wpAny (model X.prog X.w) X.A (handleBy e X.env (h0 :: hds)) (SP X pins D) X.xe s₃) X.xe s₂) X.xe s₁) ?_ PassesOwn.looking).run [] s σ H D (I.toTry _) h) ?_ fun e s1 he => he)
  · rintro u s' ⟨a, B, sI, pins', σ', H', cls, d, rfl, J', nb, up, sky, na, os, ag, w⟩
    have J : Inv X pins σ' H' sI := J'.ofTry io
    have sk : Sky B (X.env :: X.outer) a (Zc cls d) X.env.locals s'.heap := by rw [← st]; exact sky
    show wpAny (model X.prog X.w) X.A (noteFrame (.ref a) X.env) _ _ _
    refine Sky.land Zc.steady hA fr sk fun h3 fl up3 => ?_
    have J3 : Inv X pins σ' H' { s' with heap := h3 } := J.landed nb fl.1 (up.trans up3) os ag
    obtain ⟨o3, v3, g3, z3, d3⟩ := fl.there
    have out : a ∉ frs (X.env :: X.outer) := fun hm => by obtain ⟨_, o', e', hn⟩ := fl.2.2.1.mem hm; rw [g3] at e'; cases e'; exact hn _ d3
    have nL : a ≠ X.env.locals := fun z => out (List.mem_filterMap.mpr ⟨X.env, List.mem_cons_self, by rw [fr, z]⟩)
    have nF : a ∉ X.fs := fun hm => by obtain ⟨e, he, q⟩ := List.mem_filterMap.mp hm; exact out (List.mem_filterMap.mpr ⟨e, List.mem_cons_of_mem _ he, q⟩)
    have S3 := J3.suite g3 d3 na nL nF
    have LT : PySem.W.Looks (model X.prog X.w) h3 (typeOf (.ref a)) cls := fun A Q E s k q => wpAny_typeOf_ref (k _ _ g3) (by rw [z3.1]; exact q)
    have look : ∀ {x : Str} {c : Value} {np : Pos} {Q E : Value → Shared → Prop}, Names X x c → Q c { s' with heap := h3 } → wpAny (model X.prog X.w) (X.A.mark (some (.ref a))) (eval (.Name x np) X.env) Q E { s' with heap := h3 } := fun {x c np Q E} hc q => by
      obtain ⟨hg, db, hm | ⟨hm, hv, nn⟩⟩ := hc
      · exact ld_glob (X := X.suite a ((a, o3) :: (X.pn ++ pins))) S3 hg hm q db
      · exact ld_blt (X := X.suite a ((a, o3) :: (X.pn ++ pins))) S3 hg hm hv q nn db
    have go : ∀ {hd : List ExceptHandler} {l' : List Hd3}, HdsMix X hd l' → wMix X.K W D l' cls d σ' H' → wpAny (model X.prog X.w) X.A (handleBy (.ref a) X.env hd) (SP X pins D) X.xe { s' with heap := h3 } := by
      intro hd l' hk
      induction hk with
      | nil =>
        intro w
        obtain ⟨_, _, _, oe, vs, T, oT, t2, he, hz, hd1, hT, _⟩ := id fl
        refine wpAny_handleBy_nil ?_
        unfold PySem.passOn
        refine wpAny_bind (wpAny_field he hd1 hT ?_)
        rw [if_neg (show ¬ ((Value.ref T == Value.none) = true) by simp)]
        have fin : wpAny (model X.prog X.w) X.A (setFlight (.ref a) X.env.frame) (fun _ s4 => wpAny (model X.prog X.w) X.A (throw (.ref a) : Sem Flow) (SP X pins D) X.xe s4) X.xe { s' with heap := h3 } := by
          rw [fr]; refine HandSPX.setFlight_upZ fl fun h4 hh4 up4 => wpAny_throw (tk _ _ ?_)
          exact ⟨a, B, sI, pins, σ', H', cls, d, rfl, J, nb, (up.trans up3).trans up4, .inr (.inr (by rw [st]; exact hh4)), na, os, ag, w⟩
        first | exact wpAny_bind (wpAny_pure (wpAny_bind fin)) | exact wpAny_bind fin
      | @bare x c ts b su np q hd2 l2 hc hsu r ih =>
        rintro ⟨y, hy, yes, no⟩
        refine wpAny_handleBy_cons (codeAny_handlers_test ?_) (by intro z; cases z)
        refine look hc ((PySem.W.exm_one (M := model X.prog X.w) J3.kIn LT hy).here ?_)
        cases y with
        | false => exact ih (no rfl)
        | true =>
          refine codeAny_handlers_suite (HandSPX.lands_againZ fl fun h4 fl4 up4 => ?_)
          have J4 : Inv X pins σ' H' { s' with heap := h4 } := J.landed nb fl4.1 ((up.trans up3).trans up4) os ag
          obtain ⟨o4, v4, g4, z4, d4⟩ := fl4.there
          refine wpAny_mono ((hsu a o4 cls d (X.pn ++ pins) z4 ⟨_, d4⟩).run [] _ _ H' _ (J4.suite g4 d4 na nL nF) (yes rfl a na)) (fun f s6 hsp => ?_) (fun _ _ z => False.elim z)
          cases f with
          | ret u => obtain ⟨v6, σ6, H6, S6, r6, q6⟩ := hsp; exact ⟨_, _, _, S6.unsuite io, r6, q6⟩
          | _ => obtain ⟨σ6, H6, S6, q6⟩ := hsp; exact ⟨_, _, S6.unsuite io, q6⟩
      | @named x n i c ts b su np q hd2 l2 hc hi hl hsu r ih =>
        rintro ⟨y, hy, yes, no⟩
        refine wpAny_handleBy_cons (codeAny_handlers_test ?_) (by intro z; cases z)
        refine look hc ((PySem.W.exm_one (M := model X.prog X.w) J3.kIn LT hy).here ?_)
        cases y with
        | false => exact ih (no rfl)
        | true =>
          refine codeAny_handlers_suite_as (HandSPX.lands_againZ fl fun h4 fl4 up4 => ?_)
          have J4 : Inv X pins σ' H' { s' with heap := h4 } := J.landed nb fl4.1 ((up.trans up3).trans up4) os ag
          obtain ⟨o4, v4, g4, z4, d4⟩ := fl4.there
          refine store_ok (X := X.suite a ((a, o4) :: (X.pn ++ pins))) (v := .ref a) (J4.suite g4 d4 na nL nF) nd hi (.inl hl) rfl (fun s5 S5 => ?_) (.inr hl)
          refine wpAny_mono ((hsu a o4 cls d (X.pn ++ pins) z4 ⟨_, d4⟩).run [] s5 _ H' _ S5 (yes rfl a na)) (fun f s6 hsp => ?_) (fun _ _ z => False.elim z)
          have gone : ∀ {σ6 : L2.St} {H6 : Hp} {Q : Shared → Prop}, Inv (X.suite a ((a, o4) :: (X.pn ++ pins))) [] σ6 H6 s6 → (∀ s7, Inv X pins (σ6.set i none) H6 s7 → Q s7) → wpAny (model X.prog X.w) X.A (do bindName X.env n .none; unbindBehindTheSuite X.env n q) (fun _ s7 => Q s7) X.xe s6 := fun S6 hq => gone_ok (S6.unsuite io) nd hi hl hq
          cases f with
          | ret u => obtain ⟨v6, σ6, H6, S6, r6, q6⟩ := hsp; exact gone S6 fun s7 J7 => ⟨_, _, _, J7, r6, q6⟩
          | _ => obtain ⟨σ6, H6, S6, q6⟩ := hsp; exact gone S6 fun s7 J7 => ⟨_, _, J7, q6⟩
    exact go ok3 w
  · intro f s1 hsp
    cases f with
    | next => obtain ⟨σ', H', J', q⟩ := hsp; exact wpAny_execs_nil ⟨σ', H', J'.ofTry io, q⟩
    | ret u => obtain ⟨v, σ', H', J', r, q⟩ := hsp; exact ⟨v, σ', H', J'.ofTry io, r, q⟩
    | _ => obtain ⟨σ', H', J', q⟩ := hsp; exact ⟨σ', H', J'.ofTry io, q⟩
/-! ### the mirror -/
abbrev Cl3 := List (Str × Bool) × Option Nat × (Str → FS)
def sHds : List Cl3 → Str → FS
  | [], c, s, μ => .ex c s μ
  | (tab, oi, ms) :: l, c, s, μ => match tab.lookup c with
    | none => .bad
    | some false => sHds l c s μ
    | some true => match oi with
      | none => ms c s μ
      | some i => if i < s.length then hideO i (ms c (s.set i none) μ) else .bad
def sTryM (l : List Cl3) (b : FS) : FS := fun s μ => match b s μ with
  | .ex c s1 μ1 => sHds l c s1 μ1
  | o => o
section
variable {X : Cx} {W : WX} {k : Nat}
def tsM (X : Cx) (su : List Stmt) (p : Addr) (t : Value) (d : Option Addr) : TS := fun D σ H => ∀ oe pn, Zc t d oe → (∃ vs, oe.data = .fields vs) → WSs (X.suite p ((p, oe) :: pn)) su D σ H
theorem tsM_ok {su : List Stmt} : SuOk X su (tsM X su) := fun p oe t d pn hz hf => ⟨fun pins s σ H D I h => pss_w.run pins s σ H D I (h oe pn hz hf)⟩
inductive MOk (X : Cx) (W : WX) : List ExceptHandler → List Cl3 → List Hd3 → Prop
  | nil : MOk X W [] [] []
  | bare {x : Str} {C : Addr} {b : Stmt} {su : List Stmt} {np q : Pos} {tab : List (Str × Bool)} {ms : FS} {hds : List ExceptHandler} {l : List Cl3} {L : List Hd3} : X.mg x = some (.ref C) → Gl X x → (x == ("__debug__" : Str)) = false → (∀ q ∈ tab, Exm X.K X.mg q.1 x q.2) →
      (∀ (a : Addr) (oe : Obj) (cls : Value) (d : Option Addr) (pn : List (Addr × Obj)), Zc cls d oe → (∃ vs, oe.data = .fields vs) → CSs (X.suite a ((a, oe) :: pn)) W (b :: su) ms) → MOk X W hds l L →
      MOk X W (.ExceptHandler (some (.Name x np)) none (b :: su) q :: hds) ((tab, none, fun _ => ms) :: l) ((.ref C, none, tsM X (b :: su)) :: L)
  | named {x n : Str} {i : Nat} {C : Addr} {b : Stmt} {su : List Stmt} {np q : Pos} {tab : List (Str × Bool)} {ms : Str → FS} {hds : List ExceptHandler} {l : List Cl3} {L : List Hd3} : X.mg x = some (.ref C) → Gl X x → (x == ("__debug__" : Str)) = false → X.N[i]? = some n → X.env.kindOf n = some .local → (∀ q ∈ tab, Exm X.K X.mg q.1 x q.2) →
      (∀ (c : Str) (C a : Addr) (oe : Obj) (pn : List (Addr × Obj)), (c, true) ∈ tab → X.mg c = some (.ref C) → Zc (.ref C) none oe → (∃ vs, oe.data = .fields vs) → CSsat (X.suite a ((a, oe) :: pn)) W i a (b :: su) (ms c)) → MOk X W hds l L →
      MOk X W (.ExceptHandler (some (.Name x np)) (some n) (b :: su) q :: hds) ((tab, some i, ms) :: l) ((.ref C, some i, tsM X (b :: su)) :: L)
theorem MOk.hds {hds : List ExceptHandler} {l : List Cl3} {L : List Hd3} (m : MOk X W hds l L) : HdsMix X hds L := by
  induction m with
  | nil => exact .nil
  | bare h1 h2 h3 h4 h5 r ih => exact .bare ⟨h2, h3, .inl h1⟩ tsM_ok ih
  | named h1 h2 h3 h4 h5 h6 h7 r ih => exact .named ⟨h2, h3, .inl h1⟩ h4 h5 tsM_ok ih
theorem MOk.run {D : Ends} {cls : Value} {ρ : List Addr} {H : Hp} {σ : L2.St} {c : Str} {s : Slots} {μ : Mem} (hs : RepS X.K H ρ s σ) (hm : RepM X.K H ρ μ) (em : X.mg c = some cls) {hds : List ExceptHandler} {l : List Cl3} {L : List Hd3} (m : MOk X W hds l L)
    (h : PostS X W ρ H (sHds l c s μ) D) : wMix X.K W D L cls none σ H := by
  have pick : ∀ {x : Str} {C : Addr} {tab : List (Str × Bool)} {y : Bool}, X.mg x = some (.ref C) → (∀ q ∈ tab, Exm X.K X.mg q.1 x q.2) → tab.lookup c = some y → PySem.W.exmOne X.K cls (.ref C) = some y ∧ ∃ A, cls = .ref A := fun {x C tab y} h1 ht hl => by
    obtain ⟨Cx, Cy, e1, e2, e3⟩ := ht (c, y) (lookup_mem hl)
    simp only at e1 e2 e3
    rw [em] at e1
    cases e1
    rw [h1] at e2
    cases e2
    exact ⟨e3, Cx, rfl⟩
  induction m with
  | nil => exact h cls σ H ρ (Stp.refl hm) hs em
  | @bare x C b su np q tab ms hds l L h1 h2 h3 h4 h5 r ih =>
    unfold sHds at h
    cases hl : tab.lookup c with
    | none => rw [hl] at h; exact h.elim
    | some y =>
      rw [hl] at h
      obtain ⟨e, _⟩ := pick h1 h4 hl
      refine ⟨y, e, ?_, ?_⟩
      · rintro rfl a ha oe pn hz hf
        exact h5 a oe cls none pn hz hf ρ μ s σ H D hs hm h
      · rintro rfl
        exact ih h
  | @named x n i C b su np q tab ms hds l L h1 h2 h3 h4 h5 h6 h7 r ih =>
    unfold sHds at h
    cases hl : tab.lookup c with
    | none => rw [hl] at h; exact h.elim
    | some y =>
      rw [hl] at h
      obtain ⟨e, A, eA⟩ := pick h1 h6 hl
      subst eA
      refine ⟨y, e, ?_, ?_⟩
      · rintro rfl a ha oe pn hz hf
        simp only at h
        split at h
        · rename_i hlt
          exact cs_tryG_end (h7 c A a oe pn (lookup_mem hl) em hz hf) hlt hs (Stp.refl hm) h
        · exact h.elim
      · rintro rfl
        exact ih h
theorem cs_tryM {body : List Stmt} {h0 : ExceptHandler} {hds : List ExceptHandler} {pos : Pos} {mb : FS} {l : List Cl3} (G : Good X W k) (hN : X.N.Nodup)
    (hb : ∀ (W' : WX) (pn : List (Addr × Obj)) (xe : Value → Shared → Prop), Good (X.tr pn xe) W' k → CSs (X.tr pn xe) W' body mb) (ok : ∃ L, MOk X W (h0 :: hds) l L)
    (hst : X.stack = X.env :: X.outer := by rfl) (hfr : X.env.frame = some X.env.locals := by rfl) : CS X W (.Try body (h0 :: hds) [] [] pos) (sTryM l mb) := by
  obtain ⟨L, m⟩ := ok
  intro ρ μ s σ H D hs hm h
  refine ⟨_, ps_try_mix hst hfr hN (W := W) (l := L) (tb := fun W' D σ H => ∀ pn xe, Takes (X.tr pn xe) W' → PassesOwn (model X.prog X.w) X.A X.env xe → WSs (X.tr pn xe) body D σ H) G.tk (fun W' pn xe tk' po => ⟨fun pins s σ H D I h => pss_w.run pins s σ H D I (h pn xe tk' po)⟩) m.hds, ?_⟩
  intro pn xe tk' po
  refine hb _ pn xe (G.tr tk' po) ρ μ s σ H D hs hm ?_
  unfold sTryM at h
  cases eb : mb s μ with
  | ex c' s1 m1 =>
    rw [eb] at h
    intro cls σ' H' ρ' t r em
    exact MOk.run (X := X) r t.mem em m (PostS.from (X := X) t h)
  | _ => rw [eb] at h; exact h
theorem mk_nil : ∃ L, MOk X W [] [] L := ⟨_, .nil⟩
theorem mk_bare {x : Str} {b : Stmt} {su : List Stmt} {np q : Pos} {tab : List (Str × Bool)} {ms : FS} {hds : List ExceptHandler} {l : List Cl3} (hx : Exn X.K X.mg x) (hg : Gl X x) (ht : ∀ q ∈ tab, Exm X.K X.mg q.1 x q.2)
    (hsu : ∀ (a : Addr) (oe : Obj) (cls : Value) (d : Option Addr) (pn : List (Addr × Obj)), Zc cls d oe → (∃ vs, oe.data = .fields vs) → CSs (X.suite a ((a, oe) :: pn)) W (b :: su) ms) (r : ∃ L, MOk X W hds l L) (hdb : (x == ("__debug__" : Str)) = false := by decide) :
    ∃ L, MOk X W (.ExceptHandler (some (.Name x np)) none (b :: su) q :: hds) ((tab, none, fun _ => ms) :: l) L := by
  obtain ⟨C, h1, _⟩ := hx
  obtain ⟨L, m⟩ := r
  exact ⟨_, .bare h1 hg hdb ht hsu m⟩
theorem mk_named {x n : Str} {i : Nat} {b : Stmt} {su : List Stmt} {np q : Pos} {tab : List (Str × Bool)} {ms : Str → FS} {hds : List ExceptHandler} {l : List Cl3} (hi : X.N[i]? = some n) (hl : X.env.kindOf n = some .local) (hx : Exn X.K X.mg x) (hg : Gl X x) (ht : ∀ q ∈ tab, Exm X.K X.mg q.1 x q.2)
    (hsu : ∀ (c : Str) (C a : Addr) (oe : Obj) (pn : List (Addr × Obj)), (c, true) ∈ tab → X.mg c = some (.ref C) → Zc (.ref C) none oe → (∃ vs, oe.data = .fields vs) → CSsat (X.suite a ((a, oe) :: pn)) W i a (b :: su) (ms c)) (r : ∃ L, MOk X W hds l L) (hdb : (x == ("__debug__" : Str)) = false := by decide) :
    ∃ L, MOk X W (.ExceptHandler (some (.Name x np)) (some n) (b :: su) q :: hds) ((tab, some i, ms) :: l) L := by
  obtain ⟨C, h1, _⟩ := hx
  obtain ⟨L, m⟩ := r
  exact ⟨_, .named h1 hg hdb hi hl ht hsu m⟩
end
end Dg
/-! Du: dict comprehensions whose keys are ints or texts; a subscript in a suite that asks the caught error. -/
namespace Dg
open PySem PySem.Spec PyProof.Rows L2
section
variable {X : Cx} {W : WX} {i : Nat} {a : Addr}
def ixQ (u w : U) (μ : Mem) : Res U := match dctU μ u with
  | none => ixU u w μ
  | some _ => .bad
theorem at_sub {e b : Expr} {ma mb : FE} {pos : Pos} (ha : CEat X W i a e ma) (hb : CEat X W i a b mb) (hp : PlainIx b := by exact fun _ _ => rfl) : CEat X W i a (.Subscript e b pos) (fOp ixQ ma mb) := by
  intro ρ μ s σ H Q hi hs hm h
  refine ⟨_, pe_ix ix_w pe_w pe_w hp, ?_⟩
  refine ha ρ μ s σ H _ hi hs hm (h.bind fun u μ1 x H1 ρ1 t1 r1 h1 => ?_)
  refine hb ρ1 μ1 s σ H1 _ hi (t1.s hs) t1.mem (h1.bind fun w μ2 y H2 ρ2 t2 r2 h2 => ?_)
  unfold ixQ at h2
  cases hd : dctU μ2 u with
  | some k => rw [hd] at h2; exact h2.elim
  | none => rw [hd] at h2; exact ix_ok t2.mem (t2.v r1) r2 hd h2
end
section
variable {X : Cx} {W W0 : WX} {k : Nat}
def dkGo (j : IterU) (own : List Nat) (g : Tgt) (t : FT) (kk e : FE) (s : Slots) (D : Nat) : Nat → Nat → Mem → Res U
  | 0, _, _ => .bad
  | f + 1, i, μ => match itemAt j i μ with
    | none => .bad
    | some none => .ok (.ref D) μ
    | some (some u) => match setT g u (wipeU s own) with
      | none => .bad
      | some s1 => match t s1 μ with
        | .ok true μ3 => match kk s1 μ3 with
          | .ok kv μ4 => match e s1 μ4 with
            | .ok v μ5 => match μ5[D]? with
              | some (.dct acc) => match keyU kv with
                | some ky => if acc.length < lim then dkGo j own g t kk e s D f (i + 1) (μ5.set D (.dct (putU acc ky v))) else .bad
                | none => .bad
              | _ => .bad
            | _ => .bad
          | _ => .bad
        | .ok false μ3 => dkGo j own g t kk e s D f (i + 1) μ3
        | _ => .bad
def fDcK (it : FI) (own : List Nat) (g : Tgt) (t : FT) (kk e : FE) : FE := fun s μ => (it s μ).bind fun j μ1 => dkGo j own g t kk e s μ1.length fuelF 0 (μ1 ++ [.dct []])
theorem dcK_reads {tg iter : Expr} {ifs : List Expr} {kx vx : Expr} {scope : Scope} {own : List Nat} {mi : FI} {g : Tgt} {t : FT} {kk e : FE} (hi : CI X W tg iter mi)
    (hg : ∀ s H0 C cl fp, CG (X.blk s H0 scope (compEnvC scope cl C X.env) fp) tg g) (ht : ∀ s H0 C cl fp, CTs (X.blk s H0 scope (compEnvC scope cl C X.env) fp) W0 ifs t)
    (hk : ∀ s H0 C cl fp, CE (X.blk s H0 scope (compEnvC scope cl C X.env) fp) W0 kx kk) (he : ∀ s H0 C cl fp, CE (X.blk s H0 scope (compEnvC scope cl C X.env) fp) W0 vx e) (hsub : subT g own = true)
    {ρ : List Addr} {μ : Mem} {s : Slots} {σ : L2.St} {H : Hp} {Q : VK} (hs : RepS X.K H ρ s σ) (hm : RepM X.K H ρ μ) (h : Post X W σ relV ρ H (fDcK mi own g t kk e s μ) Q) :
    tDc (WI X tg iter) (WGb X scope tg) (WTb X scope ifs) (WEb X scope kx) (WEb X scope vx) own σ H Q := by
  refine hi ρ μ s σ H _ hs hm (h.bind fun j μ1 J H1 ρ1 t1 r1 h1 => ?_)
  intro D hD
  have hJ : ItOk X.K ρ1 H1 j J := r1
  have tD : Stp X.K ρ1 H1 (ρ1 ++ [D]) (upd H1 D (.dK [])) (μ1 ++ [.dct []]) := newD t1.mem hD (RepKV.nil (K := X.K) (H := H1) (ρ := ρ1))
  refine ⟨fun i m H' => ∃ ρ' μ', Stp X.K (ρ1 ++ [D]) (upd H1 D (.dK [])) ρ' H' μ' ∧ Post X W σ relV ρ' H' (dkGo j own g t kk e s μ1.length m i μ') Q, ⟨fuelF, ρ1 ++ [D], μ1 ++ [.dct []], Stp.refl tD.mem, h1.into tD⟩, ?_⟩
  intro i m H' ⟨ρ', μ', t', h'⟩
  have hDr : ρ'[μ1.length]? = some D := t'.ext.get (by rw [← t1.mem.len, List.getElem?_append_right (Nat.le_refl _)]; simp)
  cases m with
  | zero => exact h'.elim
  | succ m =>
    have q := hJ i ρ' H' μ' (tD.ext.trans t'.ext) (tD.tx.trans t'.tx) t'.mem
    unfold dkGo at h'
    cases e0 : itemAt j i μ' with
    | none => rw [e0] at h'; exact h'.elim
    | some o =>
      rw [e0] at h' q
      cases o with
      | none => exact .inl ⟨q, h'.ok (Stp.refl t'.mem) (.ref hDr)⟩
      | some u =>
        refine .inr ⟨q.1, fun H2 => ∃ ρ2 μ2, Stp X.K (ρ1 ++ [D]) (upd H1 D (.dK [])) ρ2 H2 μ2 ∧ Post X W σ relV ρ2 H2 (dkGo j own g t kk e s μ1.length m (i + 1) μ2) Q, fun H2 z => ⟨m, Nat.lt_succ_self m, z⟩, fun x H'' y => ?_⟩
        obtain ⟨t2, ru⟩ := q.2 x H'' y
        simp only at h'
        have hsw : RepS X.K H'' ρ' (wipeU s own) (wipe σ own) := (t2.s (t'.s (tD.s (t1.s hs)))).wipe own
        cases es : setT g u (wipeU s own) with
        | none => rw [es] at h'; exact h'.elim
        | some s1 =>
          rw [es] at h'
          simp only at h'
          intro s0 H0 C cl fp
          refine hg s0 H0 C cl fp ρ' (wipeU s own) (wipe σ own) H'' u x s1 _ hsw ru es fun σ3 hs3 hw => ⟨?_, ?_⟩
          · have := hw own (subT_ok hsub)
            rw [this]
            exact wipe_wipe fun i hi => hi
          · intro s0' H0' C' cl' fp'
            refine ht s0' H0' C' cl' fp' ρ' μ' s1 σ3 H'' _ hs3 t2.mem ?_
            cases et : t s1 μ' with
            | ex c m2 => rw [et] at h'; exact h'.elim
            | bad => rw [et] at h'; exact h'.elim
            | ok b μ3 =>
              rw [et] at h'
              intro b' H4 ρ4 t4 r4
              cases r4
              cases b with
              | false => exact iteF ⟨ρ4, μ3, (t'.trans t2).trans t4, Post.into (t2.trans t4) h'⟩
              | true =>
                refine iteT ?_
                intro s0' H0' C' cl' fp'
                refine hk s0' H0' C' cl' fp' ρ4 μ3 s1 σ3 H4 _ (t4.s hs3) t4.mem ?_
                simp only at h'
                cases ekk : kk s1 μ3 with
                | ex c m2 => rw [ekk] at h'; exact h'.elim
                | bad => rw [ekk] at h'; exact h'.elim
                | ok kv μ4 =>
                  rw [ekk] at h'
                  simp only at h'
                  intro yk H5 ρ5 t5 r5
                  intro s0' H0' C' cl' fp'
                  refine he s0' H0' C' cl' fp' ρ5 μ4 s1 σ3 H5 _ (t5.s (t4.s hs3)) t5.mem ?_
                  cases ee : e s1 μ4 with
                  | ex c m2 => rw [ee] at h'; exact h'.elim
                  | bad => rw [ee] at h'; exact h'.elim
                  | ok v μ5 =>
                    rw [ee] at h'
                    simp only at h'
                    intro w H6 ρ6 t6 r6
                    split at h'
                    · rename_i acc em
                      split at h'
                      · rename_i ky ek
                        split at h'
                        · rename_i hz
                          have hD6 : ρ6[μ1.length]? = some D := t6.ext.get (t5.ext.get (t4.ext.get (t2.ext.get hDr)))
                          obtain ⟨kvs, q6, rr⟩ := dct_of t6.mem hD6 em
                          have t7 := putD t6.mem hD6 em (RepKV.put (k := ky) r6 rr)
                          exact ⟨kvs, ky, keyU_ok (t6.v r5) ek, q6, by rw [rr.length]; exact lim_lt hz, ρ6, _, ((((t'.trans t2).trans t4).trans t5).trans t6).trans t7, Post.into ((((t2.trans t4).trans t5).trans t6).trans t7) h'⟩
                        · exact h'.elim
                      · exact h'.elim
                    · exact h'.elim
/-- y = {k: v for ..}, keys ints or texts -/
theorem ps_setDc {i : Nat} {y : Str} {py spos : Pos} {kx vx tg iter : Expr} {ifs : List Expr} {scope : Scope} {own : List (Str × Nat)} {pos : Pos} {wi : TI} {g : TG} {tt : TT} {tk tv : TE} (hc : X.calm = true) (hN : X.N.Nodup) (hy : X.N[i]? = some y)
    (hyl : X.env.scope.names.lookup y = some .local) (hsw : swapsWith (.DictComp kx vx [⟨tg, iter, ifs, 0⟩] scope pos) (some (.Name y py)) spos.line X.env = pure true) (hi : PI X tg iter wi) (ok : BlkOk X.N X.env.scope scope own)
    (hg : ∀ s H C cl fp, PG (X.blk s H scope (compEnvC scope cl C X.env) fp) tg g) (ht : ∀ s H C cl fp, PTs (X.blk s H scope (compEnvC scope cl C X.env) fp) ifs tt) (hk : ∀ s H C cl fp, PE (X.blk s H scope (compEnvC scope cl C X.env) fp) kx tk)
    (hv : ∀ s H C cl fp, PE (X.blk s H scope (compEnvC scope cl C X.env) fp) vx tv) (hs0 : ∀ x, foldedSetIterable iter X.env x = pure x := by intro _; rfl) :
    PS X (.Assign [.Name y py] (.DictComp kx vx [⟨tg, iter, ifs, 0⟩] scope pos) spos) (tAsg (tDc wi g tt tk tv (own.map (·.2))) (gName i)) := by
  refine ⟨fun pins s σ H D I h => ?_⟩
  rw [exec_Assign_Name_used _ _ _ _ hsw]
  refine wpAny_bind (wpAny_standAt (wpAny_bind ?_))
  show wpAny _ X.A (do let _ ← comprehension (.DictComp kx vx [⟨tg, iter, ifs, 0⟩] scope pos) scope X.env (firstIterPos [⟨tg, iter, ifs, 0⟩] pos) newDict false (eval iter X.env) (some (assign (.Name y py) X.env))) _ _ s
  have h' : tDc wi g tt tk tv (own.map (·.2)) σ H (fun x H1 => gName i x σ H1 D.nx) := h
  refine wpAny_bind (thn (dc_core (Qf := fun _ s' => SP X pins D .next s') hc hN I hi ok hg ht hk hv hs0 h' fun L C s' m H' I' q hn f => ?_) fun _ s' z => wpAny_pure (wpAny_pure z))
  show wpAny _ _ (assign (.Name y py) X.env (.ref L)) _ _ _
  refine wpAny_assign_Name (store_ok2 (v := V.ref L) I' hN hy (.inl hyl) rfl (fun s2 I2 ⟨a, sb, ha⟩ => ?_) (.inr hyl))
  obtain ⟨c0, c1, c2, c3, c4, c5⟩ := f
  have ne : C ≠ a := ha.elim (fun z => by rw [z]; exact c1) fun z e => c4 y a z e.symm
  exact ⟨m, hn.sameBut sb ne, fun h3 sb3 => ⟨_, H', I2.turned (t' := s2.toks) (fun b o hb e => (sb3.2 b hb).trans e) c0 c1 c3 c4 c5, q⟩⟩
theorem ce_dcK {tg iter : Expr} {ifs : List Expr} {kx vx : Expr} {scope : Scope} {own : List (Str × Nat)} {pos : Pos} {mi : FI} {g : Tgt} {t : FT} {kk e : FE} (G : Good X W (k + 40)) (hN : X.N.Nodup) (ok : BlkOk X.N X.env.scope scope own) (hi : CI X W tg iter mi)
    (hg : ∀ s H0 C cl fp, CG (X.blk s H0 scope (compEnvC scope cl C X.env) fp) tg g) (ht : ∀ s H0 C cl fp, CTs (X.blk s H0 scope (compEnvC scope cl C X.env) fp) W0 ifs t)
    (hk : ∀ s H0 C cl fp, CE (X.blk s H0 scope (compEnvC scope cl C X.env) fp) W0 kx kk) (he : ∀ s H0 C cl fp, CE (X.blk s H0 scope (compEnvC scope cl C X.env) fp) W0 vx e) (hsub : subT g (own.map (·.2)) = true)
    (hs0 : ∀ x, foldedSetIterable iter X.env x = pure x := by intro _; rfl) : CE X W (.DictComp kx vx [⟨tg, iter, ifs, 0⟩] scope pos) (fDcK mi (own.map (·.2)) g t kk e) :=
  fun ρ μ s σ H Q hs hm h => ⟨_, pe_dc G.calm hN pi_w ok pg_wb pts_wb pe_wb pe_wb hs0, dcK_reads hi hg ht hk he hsub hs hm h⟩
theorem cs_setDcK {i : Nat} {y : Str} {py : Pos} {tg iter : Expr} {ifs : List Expr} {kx vx : Expr} {scope : Scope} {own : List (Str × Nat)} {pos spos : Pos} {mi : FI} {g : Tgt} {t : FT} {kk e : FE} (G : Good X W (k + 40)) (hN : X.N.Nodup) (hy : X.N[i]? = some y) (hyl : X.env.scope.names.lookup y = some .local)
    (hsw : swapsWith (.DictComp kx vx [⟨tg, iter, ifs, 0⟩] scope pos) (some (.Name y py)) spos.line X.env = pure true) (ok : BlkOk X.N X.env.scope scope own) (hi : CI X W tg iter mi)
    (hg : ∀ s H0 C cl fp, CG (X.blk s H0 scope (compEnvC scope cl C X.env) fp) tg g) (ht : ∀ s H0 C cl fp, CTs (X.blk s H0 scope (compEnvC scope cl C X.env) fp) W0 ifs t)
    (hk : ∀ s H0 C cl fp, CE (X.blk s H0 scope (compEnvC scope cl C X.env) fp) W0 kx kk) (he : ∀ s H0 C cl fp, CE (X.blk s H0 scope (compEnvC scope cl C X.env) fp) W0 vx e) (hsub : subT g (own.map (·.2)) = true)
    (hs0 : ∀ x, foldedSetIterable iter X.env x = pure x := by intro _; rfl) :
    CS X W (.Assign [.Name y py] (.DictComp kx vx [⟨tg, iter, ifs, 0⟩] scope pos) spos) (sAsg (.one i) (fDcK mi (own.map (·.2)) g t kk e)) := by
  intro ρ μ s σ H D hs hm h
  refine ⟨_, ps_setDc G.calm hN hy hyl hsw pi_w ok pg_wb pts_wb pe_wb pe_wb hs0, ?_⟩
  refine dcK_reads (W := W) hi hg ht hk he hsub hs hm ?_
  exact PostS.bind hs h fun u μ1 x H1 ρ1 t1 r1 h1 => h1 _ H1 ρ1 (Stp.refl t1.mem) ((t1.s hs).set r1)
end
end Dg
namespace Lw
open PySem PySem.Spec PyProof.Rows L2 RZ Dg
/-! ### the text by places -/
def top (i : Nat) : Stmt := PySem.Challenge.pw_doppelganger_k75_clients_refused.main.body.getD i (.Pass ⟨0, 0, 0, 0⟩)
abbrev s_kids : Stmt := top 11
abbrev N_kids : List Str := ["term", "kind", "found", "_", "fields", "field", "part"]
theorem sc_kids : FnScope N_kids ["term", "kind"] (defScope s_kids) := ⟨rfl, rfl, rfl, by decide +kernel, rfl, by decide +kernel, by decide +kernel⟩
abbrev s_levels_of_parts : Stmt := top 12
abbrev N_levels_of_parts : List Str := ["term", "level", "many", "levels"]
theorem sc_levels_of_parts : FnScope N_levels_of_parts ["term", "level", "many"] (defScope s_levels_of_parts) := ⟨rfl, rfl, rfl, by decide +kernel, rfl, by decide +kernel, by decide +kernel⟩
abbrev s_nodes : Stmt := top 13
abbrev N_nodes : List Str := ["term", "kind", "found", "waiting", "node_kind", "node", "level", "parts", "levels", "at", "part_kind", "part"]
theorem sc_nodes : FnScope N_nodes ["term", "kind"] (defScope s_nodes) := ⟨rfl, rfl, rfl, by decide +kernel, rfl, by decide +kernel, by decide +kernel⟩
abbrev s_is_too_large : Stmt := top 14
abbrev N_is_too_large : List Str := ["term", "kind", "found", "_", "level"]
theorem sc_is_too_large : FnScope N_is_too_large ["term", "kind"] (defScope s_is_too_large) := ⟨rfl, rfl, rfl, by decide +kernel, rfl, by decide +kernel, by decide +kernel⟩
abbrev s_with_variables : Stmt := top 16
abbrev N_with_variables : List Str := ["variables", "term", "name", "value"]
theorem sc_with_variables : FnScope N_with_variables ["variables", "term"] (defScope s_with_variables) := ⟨rfl, rfl, rfl, by decide +kernel, rfl, by decide +kernel, by decide +kernel⟩
abbrev s_check_client : Stmt := top 18
abbrev N_check_client : List Str := ["module", "client", "decls", "kind", "_", "kinds", "name", "types", "result", "kind_of_operation"]
theorem sc_check_client : FnScope N_check_client ["module", "client"] (defScope s_check_client) := ⟨rfl, rfl, rfl, by decide +kernel, rfl, by decide +kernel, by decide +kernel⟩
abbrev s_link : Stmt := top 19
abbrev N_link : List Str := ["module", "client", "variables", "operations", "term", "name", "kind", "body"]
theorem sc_link : FnScope N_link ["module", "client"] (defScope s_link) := ⟨rfl, rfl, rfl, by decide +kernel, rfl, by decide +kernel, by decide +kernel⟩
abbrev s__law_stream : Stmt := top 21
abbrev N__law_stream : List Str := ["script", "numbers", "cell", "rest", "k", "mixed"]
theorem sc__law_stream : FnScope N__law_stream ["script"] (defScope s__law_stream) := ⟨rfl, rfl, rfl, by decide +kernel, rfl, by decide +kernel, by decide +kernel⟩
abbrev s__law_pick : Stmt := top 22
abbrev N__law_pick : List Str := ["numbers", "at", "many"]
theorem sc__law_pick : FnScope N__law_pick ["numbers", "at", "many"] (defScope s__law_pick) := ⟨rfl, rfl, rfl, by decide +kernel, rfl, by decide +kernel, by decide +kernel⟩
abbrev s__law_next : Stmt := top 23
abbrev N__law_next : List Str := ["state", "many"]
theorem sc__law_next : FnScope N__law_next ["state", "many"] (defScope s__law_next) := ⟨rfl, rfl, rfl, by decide +kernel, rfl, by decide +kernel, by decide +kernel⟩
abbrev s__law_exp : Stmt := top 24
abbrev N__law_exp : List Str := ["state", "names", "depth", "way", "first", "second", "tag"]
theorem sc__law_exp : FnScope N__law_exp ["state", "names", "depth"] (defScope s__law_exp) := ⟨rfl, rfl, rfl, by decide +kernel, rfl, by decide +kernel, by decide +kernel⟩
abbrev s__law_com : Stmt := top 25
abbrev N__law_com : List Str := ["state", "names", "depth", "way", "first", "second", "value"]
theorem sc__law_com : FnScope N__law_com ["state", "names", "depth"] (defScope s__law_com) := ⟨rfl, rfl, rfl, by decide +kernel, rfl, by decide +kernel, by decide +kernel⟩
abbrev s__law_module : Stmt := top 26
abbrev N__law_module : List Str := ["state", "depth", "count", "names", "variables", "operations", "k", "kind", "term", "name"]
theorem sc__law_module : FnScope N__law_module ["state", "depth"] (defScope s__law_module) := ⟨rfl, rfl, rfl, by decide +kernel, rfl, by decide +kernel, by decide +kernel⟩
abbrev s__law_linked : Stmt := top 27
abbrev N__law_linked : List Str := ["module", "client", "term", "k", "row"]
theorem sc__law_linked : FnScope N__law_linked ["module", "client"] (defScope s__law_linked) := ⟨rfl, rfl, rfl, by decide +kernel, rfl, by decide +kernel, by decide +kernel⟩
abbrev s__law_told : Stmt := top 28
abbrev N__law_told : List Str := ["module", "client", "told", "e"]
theorem sc__law_told : FnScope N__law_told ["module", "client"] (defScope s__law_told) := ⟨rfl, rfl, rfl, by decide +kernel, rfl, by decide +kernel, by decide +kernel⟩
abbrev s__law_long : Stmt := top 29
abbrev N__law_long : List Str := ["many", "term", "k"]
theorem sc__law_long : FnScope N__law_long ["many"] (defScope s__law_long) := ⟨rfl, rfl, rfl, by decide +kernel, rfl, by decide +kernel, by decide +kernel⟩
abbrev s__law_deep : Stmt := top 30
abbrev N__law_deep : List Str := ["levels", "term", "k"]
theorem sc__law_deep : FnScope N__law_deep ["levels"] (defScope s__law_deep) := ⟨rfl, rfl, rfl, by decide +kernel, rfl, by decide +kernel, by decide +kernel⟩
abbrev s_law : Stmt := top 31
abbrev N_law : List Str := ["script", "state", "module", "name", "kind", "term", "other", "use", "client", "good", "bad", "around"]
theorem sc_law : FnScope N_law ["script"] (defScope s_law) := ⟨rfl, rfl, rfl, by decide +kernel, rfl, by decide +kernel, by decide +kernel⟩
def tab_FORMS : List (Str × U) := [("skip", (.tup [(.str "com"), (.tup [])])), ("seq", (.tup [(.str "com"), (.tup [(.str "com"), (.str "com")])])), ("set", (.tup [(.str "com"), (.tup [(.str "name"), (.str "exp")])])), ("while", (.tup [(.str "com"), (.tup [(.str "exp"), (.str "com")])])), ("block", (.tup [(.str "com"), (.tup [(.str "name"), (.str "com")])])), ("num", (.tup [(.str "exp"), (.tup [(.str "number")])])), ("read", (.tup [(.str "exp"), (.tup [(.str "name")])])), ("add", (.tup [(.str "exp"), (.tup [(.str "exp"), (.str "exp")])])), ("sub", (.tup [(.str "exp"), (.tup [(.str "exp"), (.str "exp")])])), ("mul", (.tup [(.str "exp"), (.tup [(.str "exp"), (.str "exp")])])), ("equal", (.tup [(.str "exp"), (.tup [(.str "exp"), (.str "exp")])])), ("less", (.tup [(.str "exp"), (.tup [(.str "exp"), (.str "exp")])])), ("do", (.tup [(.str "exp"), (.tup [(.str "com"), (.str "exp")])])), ("stop", (.tup [(.str "both"), (.tup [])])), ("fault", (.tup [(.str "both"), (.tup [])])), ("exit", (.tup [(.str "both"), (.tup [(.str "name")])])), ("if", (.tup [(.str "both"), (.tup [(.str "exp"), (.str "same"), (.str "same")])])), ("new", (.tup [(.str "both"), (.tup [(.str "name"), (.str "exp"), (.str "same")])])), ("call", (.tup [(.str "both"), (.tup [(.str "name"), (.str "args")])])), ("proc", (.tup [(.str "both"), (.tup [(.str "name"), (.str "params"), (.str "result"), (.str "body"), (.str "same")])]))]
/-! ### the mirrors -/
abbrev Calls := Nat → List U → Mem → Res U
def b_kids (C : Calls) : FS :=
    (sSeq (sAsg (.one 2) (fLst aNil))
    (sSeq (sAsg (.tup [3, 4]) (fKGet tab_FORMS (fOp ixU (fVar 0) (fC (.int 0)))))
    (sSeq (sFor (iZip (fVar 4) (fSl (fVar 0) (oSome (fC (.int 1))) oNone)) (.tup [5, 6]) (sIf (tstB (fOp uIn (fVar 5) (fC (.tup [(.str "com"), (.str "exp")])))) (sExpr (fMtL gAppend (fVar 2) (aCons (fTup (aCons (fVar 5) (aCons (fVar 6) aNil))) aNil))) (sIf (tstB (fOp uEq (fVar 5) (fC (.str "same")))) (sExpr (fMtL gAppend (fVar 2) (aCons (fTup (aCons (fVar 1) (aCons (fVar 6) aNil))) aNil))) (sIf (tstB (fOp uEq (fVar 5) (fC (.str "body")))) (sExpr (fMtL gAppend (fVar 2) (aCons (fTup (aCons (fOp ixU (fVar 0) (fC (.int 3))) (aCons (fVar 6) aNil))) aNil))) (sIf (tstB (fOp uEq (fVar 5) (fC (.str "args")))) (sExpr (fMtL gExt (fVar 2) (aCons (fVar 6) aNil))) sNext)))))
    (sRet (fVar 2)))))
def b_levels_of_parts (C : Calls) : FS :=
    (sSeq (sAsg (.one 3) (fOp uMul (fLst (aCons (fOp uAdd (fVar 1) (fC (.int 1))) aNil)) (fVar 2)))
    (sSeq (sIf (tAn (tstB (fOp uEq (fOp ixU (fVar 0) (fC (.int 0))) (fC (.str "seq")))) (tstB (fOp uEq (fOp ixU (fOp ixU (fVar 0) (fC (.int 1))) (fC (.int 0))) (fC (.str "seq"))))) (sStore (fVar 3) (fC (.int 0)) (fVar 1)) sNext)
    (sRet (fVar 3))))
def b_nodes (C : Calls) : FS :=
    (sSeq (sAsg (.one 2) (fLst aNil))
    (sSeq (sAsg (.one 3) (fLst (aCons (fTup (aCons (fVar 1) (aCons (fVar 0) (aCons (fC (.int 1)) aNil)))) aNil)))
    (sSeq (sWhile (tst (fVar 3)) (sSeq (sAsg (.tup [4, 5, 6]) (fMtL gPop (fVar 3) aNil))
    (sSeq (sExpr (fMtL gAppend (fVar 2) (aCons (fTup (aCons (fVar 4) (aCons (fVar 5) (aCons (fVar 6) aNil)))) aNil)))
    (sSeq (sAsg (.one 7) (fDef 2 (C 0) (aCons (fVar 5) (aCons (fVar 4) aNil))))
    (sSeq (sAsg (.one 8) (fDef 3 (C 1) (aCons (fVar 5) (aCons (fVar 6) (aCons (fCall bLen (aCons (fVar 7) aNil)) aNil)))))
    (sFor (iRev1 (fCall bLen (aCons (fVar 7) aNil))) (.one 9) (sSeq (sAsg (.tup [10, 11]) (fOp ixU (fVar 7) (fVar 9)))
    (sExpr (fMtL gAppend (fVar 3) (aCons (fTup (aCons (fVar 10) (aCons (fVar 11) (aCons (fOp ixU (fVar 8) (fVar 9)) aNil)))) aNil))))))))) fuelF)
    (sRet (fVar 2)))))
def b_is_too_large (C : Calls) : FS :=
    (sSeq (sAsg (.one 2) (fDef 2 (C 2) (aCons (fVar 0) (aCons (fVar 1) aNil))))
    (sRet (fOr (fOp uGt (fCall bLen (aCons (fVar 2) aNil)) (fC (.int 400))) (fOp uGt (fCall bMax (aCons (fLc (iSeq (fVar 2)) [3, 3, 4] (.tup [3, 3, 4]) tAll (fVar 4)) aNil)) (fC (.int 30))))))
def b_with_variables (C : Calls) : FS :=
    (sSeq (sFor (iRevL (fVar 0)) (.tup [2, 3]) (sAsg (.one 1) (fTup (aCons (fC (.str "new")) (aCons (fVar 2) (aCons (fTup (aCons (fC (.str "num")) (aCons (fVar 3) aNil))) (aCons (fVar 1) aNil)))))))
    (sRet (fVar 1)))
def b_check_client (C : Calls) : FS :=
    (sSeq (sAsg (.tup [2, 3, 4]) (fVar 1))
    (sSeq (sAsg (.one 5) (fDcK (iSeq (fOp ixU (fVar 0) (fC (.int 1)))) [6, 9, 4] (.tup [6, 9, 4]) tAll (fVar 6) (fVar 9)))
    (sSeq (sFor (iSeq (fVar 2)) (.tup [6, 4, 4]) (sIf (tstB (fOp uNin (fVar 6) (fVar 5))) (sRaise "BadName" (fJs [(fFmt (fVar 6)), (fC (.str " is not an operation of the module"))] Str.empty)) sNext))
    (sSeq (sIf (tstB (fOp uNe (fVar 3) (fC (.str "com")))) (sRaise "BadKind" (fC (.str "the client is not a command"))) sNext)
    (sFor (iSeq (fVar 2)) (.tup [6, 7, 8]) (sIf (tOr' (tst (fVar 7)) (tstB (fOp uNe (fVar 8) (fOp ixU (fVar 5) (fVar 6))))) (sRaise "BadKind" (fJs [(fFmt (fVar 6)), (fC (.str " is not declared as the operation is"))] Str.empty)) sNext))))))
def b_link (C : Calls) : FS :=
    (sSeq (sExpr (fDef 2 (C 5) (aCons (fVar 0) (aCons (fVar 1) aNil))))
    (sSeq (sAsg (.tup [2, 3]) (fVar 0))
    (sSeq (sAsg (.one 4) (fOp ixU (fVar 1) (fC (.int 2))))
    (sSeq (sFor (iRevL (fVar 3)) (.tup [5, 6, 7]) (sAsg (.one 4) (fTup (aCons (fC (.str "proc")) (aCons (fVar 5) (aCons (fTup aNil) (aCons (fVar 6) (aCons (fVar 7) (aCons (fVar 4) aNil)))))))))
    (sSeq (sAsg (.one 4) (fDef 2 (C 4) (aCons (fVar 2) (aCons (fVar 4) aNil))))
    (sSeq (sIf (tst (fDef 2 (C 3) (aCons (fVar 4) (aCons (fC (.str "com")) aNil)))) (sRaise "TooLarge" (fC (.str "the linked piece has too many nodes or levels"))) sNext)
    (sRet (fTup (aCons (fTup aNil) (aCons (fC (.str "com")) (aCons (fVar 4) aNil)))))))))))
def b__law_stream (C : Calls) : FS :=
    (sSeq (sAsg (.one 1) (fLst aNil))
    (sSeq (sFor (iSeq (fSl (fVar 0) oNone (oSome (fC (.int 63))))) (.one 2) (sSeq (sAsg (.one 3) (fCall bInt (aCons (fVar 2) aNil)))
    (sIf (tstB (fOp uGeX (fVar 3) (fOp uPow (fC (.int 10)) (fC (.int 18))))) (sFor (iRg1 (fC (.int 60))) (.one 4) (sSeq (sExpr (fMtL gAppend (fVar 1) (aCons (fOp uMod (fCall bInt (aCons (fVar 3) aNil)) (fC (.int 1009))) aNil)))
    (sSeq (sAsg (.one 3) (fOp uFdiv (fVar 3) (fC (.int 1009))))
    (sIf (tstB (fOp uEq (fVar 3) (fC (.int 0)))) sBrk sNext)))) (sSeq (sAsg (.one 5) (fOp uMod (fCall bInt (aCons (fVar 3) aNil)) (fC (.int 2147483647))))
    (sFor (iRg1 (fC (.int 10))) (.one 4) (sSeq (sAsg (.one 5) (fOp uMod (fCall bInt (aCons (fOp uAdd (fOp uAdd (fOp uMul (fVar 5) (fC (.int 48271))) (fOp uMul (fC (.int 7)) (fVar 4))) (fC (.int 11))) aNil)) (fC (.int 2147483647))))
    (sExpr (fMtL gAppend (fVar 1) (aCons (fOp uMod (fOp uMod (fCall bInt (aCons (fOp uAdd (fOp uMul (fVar 5) (fC (.int 69621))) (fVar 4)) aNil)) (fC (.int 2147483629))) (fC (.int 1009))) aNil)))))))))
    (sSeq (sIf (tstB (fOp uEq (fCall bLen (aCons (fVar 1) aNil)) (fC (.int 0)))) (sExpr (fMtL gAppend (fVar 1) (aCons (fC (.int 0)) aNil))) sNext)
    (sRet (fVar 1)))))
def b__law_pick (C : Calls) : FS :=
    (sRet (fOp uMod (fCall bInt (aCons (fOp ixU (fVar 0) (fOp uMod (fVar 1) (fCall bLen (aCons (fVar 0) aNil)))) aNil)) (fVar 2)))
def b__law_next (C : Calls) : FS :=
    (sSeq (sStore (fVar 0) (fC (.int 1)) (fOp uAdd (fOp ixU (fVar 0) (fC (.int 1))) (fC (.int 1))))
    (sRet (fOp uMod (fCall bInt (aCons (fOp ixU (fOp ixU (fVar 0) (fC (.int 0))) (fOp uMod (fOp ixU (fVar 0) (fC (.int 1))) (fCall bLen (aCons (fOp ixU (fVar 0) (fC (.int 0))) aNil)))) aNil)) (fVar 1))))
def b__law_exp (C : Calls) : FS :=
    (sSeq (sAsg (.one 3) (fDef 2 (C 9) (aCons (fVar 0) (aCons (fOp ixU (fLst (aCons (fC (.int 3)) (aCons (fC (.int 9)) aNil))) (fCall bInt (aCons (fOp uGt (fVar 2) (fC (.int 0))) aNil))) aNil))))
    (sSeq (sIf (tOr' (tstB (fOp uEq (fVar 3) (fC (.int 0)))) (tAn (tstB (fOp uEq (fCall bLen (aCons (fVar 1) aNil)) (fC (.int 0)))) (tstB (fOp uLt (fVar 3) (fC (.int 3)))))) (sRet (fTup (aCons (fC (.str "num")) (aCons (fDef 2 (C 9) (aCons (fVar 0) (aCons (fC (.int 3)) aNil))) aNil)))) sNext)
    (sSeq (sIf (tstB (fOp uLt (fVar 3) (fC (.int 3)))) (sRet (fTup (aCons (fC (.str "read")) (aCons (fOp ixU (fVar 1) (fDef 2 (C 9) (aCons (fVar 0) (aCons (fCall bLen (aCons (fVar 1) aNil)) aNil)))) aNil)))) sNext)
    (sSeq (sIf (tAn (tstB (fOp uEq (fVar 3) (fC (.int 3)))) (tstB (fOp uEq (fDef 2 (C 9) (aCons (fVar 0) (aCons (fC (.int 4)) aNil))) (fC (.int 0))))) (sRet (fOp ixU (fLst (aCons (fTup (aCons (fC (.str "stop")) aNil)) (aCons (fTup (aCons (fC (.str "fault")) aNil)) aNil))) (fDef 2 (C 9) (aCons (fVar 0) (aCons (fC (.int 2)) aNil))))) sNext)
    (sSeq (sAsg (.one 4) (fDef 3 (C 10) (aCons (fVar 0) (aCons (fVar 1) (aCons (fOp uSub (fVar 2) (fC (.int 1))) aNil)))))
    (sSeq (sIf (tstB (fOp uEq (fVar 3) (fC (.int 4)))) (sSeq (sAsg (.one 5) (fDef 3 (C 10) (aCons (fVar 0) (aCons (fVar 1) (aCons (fOp uSub (fVar 2) (fC (.int 1))) aNil)))))
    (sRet (fTup (aCons (fC (.str "if")) (aCons (fVar 4) (aCons (fVar 5) (aCons (fDef 3 (C 10) (aCons (fVar 0) (aCons (fVar 1) (aCons (fOp uSub (fVar 2) (fC (.int 1))) aNil)))) aNil))))))) sNext)
    (sSeq (sIf (tstB (fOp uEq (fVar 3) (fC (.int 5)))) (sRet (fTup (aCons (fC (.str "do")) (aCons (fDef 3 (C 11) (aCons (fVar 0) (aCons (fVar 1) (aCons (fOp uSub (fVar 2) (fC (.int 1))) aNil)))) (aCons (fVar 4) aNil))))) sNext)
    (sSeq (sIf (tstB (fOp uEq (fVar 3) (fC (.int 6)))) (sRet (fTup (aCons (fC (.str "new")) (aCons (fC (.str "loc")) (aCons (fVar 4) (aCons (fDef 3 (C 10) (aCons (fVar 0) (aCons (fOp uAdd (fVar 1) (fLst (aCons (fC (.str "loc")) aNil))) (aCons (fOp uSub (fVar 2) (fC (.int 1))) aNil)))) aNil)))))) sNext)
    (sSeq (sAsg (.one 6) (fOp ixU (fLst (aCons (fC (.str "add")) (aCons (fC (.str "sub")) (aCons (fC (.str "mul")) (aCons (fC (.str "equal")) (aCons (fC (.str "less")) aNil)))))) (fDef 2 (C 9) (aCons (fVar 0) (aCons (fC (.int 5)) aNil)))))
    (sRet (fTup (aCons (fVar 6) (aCons (fVar 4) (aCons (fDef 3 (C 10) (aCons (fVar 0) (aCons (fVar 1) (aCons (fOp uSub (fVar 2) (fC (.int 1))) aNil)))) aNil))))))))))))))
def b__law_com (C : Calls) : FS :=
    (sSeq (sAsg (.one 3) (fDef 2 (C 9) (aCons (fVar 0) (aCons (fOp ixU (fLst (aCons (fC (.int 2)) (aCons (fC (.int 9)) aNil))) (fCall bInt (aCons (fOp uGt (fVar 2) (fC (.int 0))) aNil))) aNil))))
    (sSeq (sIf (tOr' (tstB (fOp uEq (fVar 3) (fC (.int 0)))) (tAn (tstB (fOp uEq (fCall bLen (aCons (fVar 1) aNil)) (fC (.int 0)))) (tstB (fOp uLt (fVar 3) (fC (.int 3)))))) (sRet (fOp ixU (fLst (aCons (fTup (aCons (fC (.str "skip")) aNil)) (aCons (fTup (aCons (fC (.str "skip")) aNil)) (aCons (fTup (aCons (fC (.str "skip")) aNil)) (aCons (fTup (aCons (fC (.str "fault")) aNil)) (aCons (fTup (aCons (fC (.str "stop")) aNil)) aNil)))))) (fOp uMul (fDef 2 (C 9) (aCons (fVar 0) (aCons (fC (.int 5)) aNil))) (fCall bInt (aCons (fOp uGt (fVar 2) (fC (.int 0))) aNil))))) sNext)
    (sSeq (sIf (tOr' (tstB (fOp uLt (fVar 3) (fC (.int 3)))) (tstB (fOp uLe (fVar 2) (fC (.int 0))))) (sRet (fTup (aCons (fC (.str "set")) (aCons (fOp ixU (fVar 1) (fDef 2 (C 9) (aCons (fVar 0) (aCons (fCall bLen (aCons (fVar 1) aNil)) aNil)))) (aCons (fDef 3 (C 10) (aCons (fVar 0) (aCons (fVar 1) (aCons (fOp uSub (fVar 2) (fC (.int 1))) aNil)))) aNil))))) sNext)
    (sSeq (sIf (tstB (fOp uLt (fVar 3) (fC (.int 5)))) (sSeq (sAsg (.one 4) (fDef 3 (C 11) (aCons (fVar 0) (aCons (fVar 1) (aCons (fOp uSub (fVar 2) (fC (.int 1))) aNil)))))
    (sSeq (sAsg (.one 5) (fDef 3 (C 11) (aCons (fVar 0) (aCons (fVar 1) (aCons (fOp uSub (fVar 2) (fC (.int 1))) aNil)))))
    (sSeq (sIf (tstB (fOp uEq (fOp ixU (fVar 5) (fC (.int 0))) (fC (.str "seq")))) (sRet (fTup (aCons (fC (.str "seq")) (aCons (fTup (aCons (fC (.str "block")) (aCons (fC (.str "lab")) (aCons (fVar 4) aNil)))) (aCons (fTup (aCons (fC (.str "block")) (aCons (fC (.str "lab")) (aCons (fVar 5) aNil)))) aNil))))) sNext)
    (sRet (fTup (aCons (fC (.str "seq")) (aCons (fVar 4) (aCons (fVar 5) aNil)))))))) sNext)
    (sSeq (sAsg (.one 6) (fDef 3 (C 10) (aCons (fVar 0) (aCons (fVar 1) (aCons (fOp uSub (fVar 2) (fC (.int 1))) aNil)))))
    (sSeq (sIf (tstB (fOp uEq (fVar 3) (fC (.int 5)))) (sRet (fTup (aCons (fC (.str "while")) (aCons (fVar 6) (aCons (fDef 3 (C 11) (aCons (fVar 0) (aCons (fVar 1) (aCons (fOp uSub (fVar 2) (fC (.int 1))) aNil)))) aNil))))) sNext)
    (sSeq (sIf (tstB (fOp uEq (fVar 3) (fC (.int 6)))) (sRet (fTup (aCons (fC (.str "new")) (aCons (fC (.str "loc")) (aCons (fVar 6) (aCons (fDef 3 (C 11) (aCons (fVar 0) (aCons (fOp uAdd (fVar 1) (fLst (aCons (fC (.str "loc")) aNil))) (aCons (fOp uSub (fVar 2) (fC (.int 1))) aNil)))) aNil)))))) sNext)
    (sSeq (sAsg (.one 4) (fDef 3 (C 11) (aCons (fVar 0) (aCons (fVar 1) (aCons (fOp uSub (fVar 2) (fC (.int 1))) aNil)))))
    (sRet (fTup (aCons (fC (.str "if")) (aCons (fVar 6) (aCons (fVar 4) (aCons (fDef 3 (C 11) (aCons (fVar 0) (aCons (fVar 1) (aCons (fOp uSub (fVar 2) (fC (.int 1))) aNil)))) aNil))))))))))))))
def b__law_module (C : Calls) : FS :=
    (sSeq (sAsg (.one 2) (fOp uAdd (fDef 2 (C 9) (aCons (fVar 0) (aCons (fC (.int 3)) aNil))) (fCall bInt (aCons (fOp uEq (fDef 2 (C 9) (aCons (fVar 0) (aCons (fC (.int 4)) aNil))) (fC (.int 0))) aNil))))
    (sSeq (sAsg (.one 3) (fSl (fOp ixU (fLst (aCons (fLst (aCons (fC (.str "v")) (aCons (fC (.str "vw")) (aCons (fC (.str "q")) aNil)))) (aCons (fLst (aCons (fC (.str "q")) (aCons (fC (.str "qq")) (aCons (fC (.str "v")) aNil)))) (aCons (fLst (aCons (fC (.str "qq")) (aCons (fC (.str "q")) (aCons (fC (.str "qqq")) aNil)))) aNil)))) (fDef 2 (C 9) (aCons (fVar 0) (aCons (fC (.int 3)) aNil)))) oNone (oSome (fVar 2))))
    (sSeq (sAsg (.one 4) (fCall bTuple (aCons (fLc (iSeq (fVar 3)) [9] (.one 9) tAll (fTup (aCons (fVar 9) (aCons (fDef 2 (C 9) (aCons (fVar 0) (aCons (fC (.int 3)) aNil))) aNil)))) aNil)))
    (sSeq (sAsg (.one 5) (fLst aNil))
    (sSeq (sFor (iRg1 (fOp uAdd (fC (.int 1)) (fDef 2 (C 9) (aCons (fVar 0) (aCons (fC (.int 2)) aNil))))) (.one 6) (sSeq (sAsg (.one 7) (fOp ixU (fLst (aCons (fC (.str "com")) (aCons (fC (.str "exp")) aNil))) (fDef 2 (C 9) (aCons (fVar 0) (aCons (fC (.int 2)) aNil)))))
    (sSeq (sAsg (.one 8) (fTup (aCons (fC (.str "skip")) aNil)))
    (sSeq (sIf (tstB (fOp uEq (fVar 7) (fC (.str "com")))) (sAsg (.one 8) (fDef 3 (C 11) (aCons (fVar 0) (aCons (fVar 3) (aCons (fVar 1) aNil))))) (sAsg (.one 8) (fDef 3 (C 10) (aCons (fVar 0) (aCons (fVar 3) (aCons (fVar 1) aNil))))))
    (sExpr (fMtL gAppend (fVar 5) (aCons (fTup (aCons (fOp ixU (fLst (aCons (fC (.str "go")) (aCons (fC (.str "get")) aNil))) (fVar 6)) (aCons (fVar 7) (aCons (fVar 8) aNil)))) aNil)))))))
    (sRet (fTup (aCons (fVar 4) (aCons (fCall bTuple (aCons (fVar 5) aNil)) aNil)))))))))
def b__law_linked (C : Calls) : FS :=
    (sSeq (sAsg (.one 2) (fOp ixU (fVar 1) (fC (.int 2))))
    (sSeq (sFor (iRg1 (fCall bLen (aCons (fOp ixU (fVar 0) (fC (.int 1))) aNil))) (.one 3) (sSeq (sAsg (.one 4) (fOp ixU (fOp ixU (fVar 0) (fC (.int 1))) (fOp uSub (fOp uSub (fCall bLen (aCons (fOp ixU (fVar 0) (fC (.int 1))) aNil)) (fC (.int 1))) (fVar 3))))
    (sAsg (.one 2) (fTup (aCons (fC (.str "proc")) (aCons (fOp ixU (fVar 4) (fC (.int 0))) (aCons (fTup aNil) (aCons (fOp ixU (fVar 4) (fC (.int 1))) (aCons (fOp ixU (fVar 4) (fC (.int 2))) (aCons (fVar 2) aNil))))))))))
    (sSeq (sFor (iRg1 (fCall bLen (aCons (fOp ixU (fVar 0) (fC (.int 0))) aNil))) (.one 3) (sSeq (sAsg (.one 4) (fOp ixU (fOp ixU (fVar 0) (fC (.int 0))) (fOp uSub (fOp uSub (fCall bLen (aCons (fOp ixU (fVar 0) (fC (.int 0))) aNil)) (fC (.int 1))) (fVar 3))))
    (sAsg (.one 2) (fTup (aCons (fC (.str "new")) (aCons (fOp ixU (fVar 4) (fC (.int 0))) (aCons (fTup (aCons (fC (.str "num")) (aCons (fOp ixU (fVar 4) (fC (.int 1))) aNil))) (aCons (fVar 2) aNil))))))))
    (sRet (fTup (aCons (fTup aNil) (aCons (fC (.str "com")) (aCons (fVar 2) aNil))))))))
def b__law_told (C : Calls) : FS :=
    (sSeq (sTryM [([("DoppelError", false), ("NotAllowed", false), ("BadName", true), ("BadKind", false), ("TooLarge", false)], some 3, fun c => (sRet (fOp ixQ (fLst (aCons (fC (.str "name")) (aCons (fC (.str "odd")) aNil))) (fCall bInt (aCons (fOr (fNot (fIsX [("DoppelError", true), ("NotAllowed", true), ("BadName", true), ("BadKind", true), ("TooLarge", true)] c)) (fIsX [("DoppelError", false || false), ("NotAllowed", false || true), ("BadName", false || false), ("BadKind", true || false), ("TooLarge", false || false)] c)) aNil))))), ([("DoppelError", false), ("NotAllowed", false), ("BadName", false), ("BadKind", true), ("TooLarge", false)], some 3, fun c => (sRet (fOp ixQ (fLst (aCons (fC (.str "bad kind")) (aCons (fC (.str "odd")) aNil))) (fCall bInt (aCons (fOr (fNot (fIsX [("DoppelError", true), ("NotAllowed", true), ("BadName", true), ("BadKind", true), ("TooLarge", true)] c)) (fIsX [("DoppelError", false || false), ("NotAllowed", false || false), ("BadName", true || false), ("BadKind", false || false), ("TooLarge", false || true)] c)) aNil))))), ([("DoppelError", false), ("NotAllowed", false), ("BadName", false), ("BadKind", false), ("TooLarge", true)], none, fun _ => (sRet (fC (.str "large"))))] (sAsg (.one 2) (fDef 2 (C 6) (aCons (fVar 0) (aCons (fVar 1) aNil)))))
    (sRet (fOp ixU (fLst (aCons (fC (.str "other")) (aCons (fC (.str "right")) aNil))) (fCall bInt (aCons (fOp uEq (fVar 2) (fDef 2 (C 13) (aCons (fVar 0) (aCons (fVar 1) aNil)))) aNil)))))
def b__law_long (C : Calls) : FS :=
    (sSeq (sAsg (.one 1) (fTup (aCons (fC (.str "skip")) aNil)))
    (sSeq (sFor (iRg1 (fVar 0)) (.one 2) (sAsg (.one 1) (fTup (aCons (fC (.str "seq")) (aCons (fVar 1) (aCons (fTup (aCons (fC (.str "skip")) aNil)) aNil))))))
    (sRet (fTup (aCons (fTup aNil) (aCons (fC (.str "com")) (aCons (fVar 1) aNil)))))))
def b__law_deep (C : Calls) : FS :=
    (sSeq (sAsg (.one 1) (fTup (aCons (fC (.str "skip")) aNil)))
    (sSeq (sFor (iRg1 (fOp uSub (fVar 0) (fC (.int 1)))) (.one 2) (sAsg (.one 1) (fTup (aCons (fC (.str "block")) (aCons (fC (.str "lab")) (aCons (fVar 1) aNil))))))
    (sRet (fTup (aCons (fTup aNil) (aCons (fC (.str "com")) (aCons (fVar 1) aNil)))))))
def b_law (C : Calls) : FS :=
    (sSeq (sAsg (.one 1) (fLst (aCons (fDef 1 (C 7) (aCons (fVar 0) aNil)) (aCons (fC (.int 0)) aNil))))
    (sSeq (sAsg (.one 2) (fDef 2 (C 12) (aCons (fVar 1) (aCons (fOp uAdd (fC (.int 1)) (fDef 2 (C 9) (aCons (fVar 1) (aCons (fC (.int 2)) aNil)))) aNil))))
    (sSeq (sAsg (.tup [3, 4, 5]) (fOp ixU (fOp ixU (fVar 2) (fC (.int 1))) (fDef 2 (C 9) (aCons (fVar 1) (aCons (fCall bLen (aCons (fOp ixU (fVar 2) (fC (.int 1))) aNil)) aNil)))))
    (sSeq (sAsg (.one 6) (fOp ixU (fLst (aCons (fC (.str "com")) (aCons (fC (.str "exp")) aNil))) (fCall bInt (aCons (fOp uEq (fVar 4) (fC (.str "com"))) aNil))))
    (sSeq (sAsg (.one 7) (fOp ixU (fLst (aCons (fTup (aCons (fC (.str "call")) (aCons (fVar 3) (aCons (fTup aNil) aNil)))) (aCons (fTup (aCons (fC (.str "while")) (aCons (fTup (aCons (fC (.str "call")) (aCons (fVar 3) (aCons (fTup aNil) aNil)))) (aCons (fTup (aCons (fC (.str "skip")) aNil)) aNil)))) aNil))) (fCall bInt (aCons (fOp uEq (fVar 4) (fC (.str "exp"))) aNil))))
    (sSeq (sAsg (.one 8) (fTup (aCons (fTup (aCons (fTup (aCons (fVar 3) (aCons (fTup aNil) (aCons (fVar 4) aNil)))) aNil)) (aCons (fC (.str "com")) (aCons (fTup (aCons (fC (.str "new")) (aCons (fC (.str "v")) (aCons (fTup (aCons (fC (.str "num")) (aCons (fC (.int 1)) aNil))) (aCons (fTup (aCons (fC (.str "seq")) (aCons (fVar 7) (aCons (fTup (aCons (fC (.str "set")) (aCons (fC (.str "v")) (aCons (fTup (aCons (fC (.str "num")) (aCons (fC (.int 2)) aNil))) aNil)))) aNil)))) aNil))))) aNil)))))
    (sSeq (sFor (iSeq (fLst (aCons (fVar 8) (aCons (fTup (aCons (fTup aNil) (aCons (fC (.str "com")) (aCons (fTup (aCons (fC (.str "stop")) aNil)) aNil)))) (aCons (fTup (aCons (fTup (aCons (fTup (aCons (fVar 3) (aCons (fTup aNil) (aCons (fVar 4) aNil)))) aNil)) (aCons (fC (.str "com")) (aCons (fTup (aCons (fC (.str "skip")) aNil)) aNil)))) (aCons (fDef 1 (C 15) (aCons (fDef 2 (C 9) (aCons (fVar 1) (aCons (fC (.int 40)) aNil))) aNil)) aNil)))))) (.one 9) (sIf (tstB (fOp uNe (fDef 2 (C 14) (aCons (fVar 2) (aCons (fVar 9) aNil))) (fC (.str "right")))) (sRet (fC (.bl false))) sNext))
    (sSeq (sIf (tstB (fOp uNe (fDef 2 (C 14) (aCons (fVar 2) (aCons (fTup (aCons (fTup (aCons (fTup (aCons (fVar 3) (aCons (fTup aNil) (aCons (fVar 4) aNil)))) (aCons (fTup (aCons (fC (.str "none")) (aCons (fTup aNil) (aCons (fC (.str "com")) aNil)))) aNil))) (aCons (fC (.str "com")) (aCons (fTup (aCons (fC (.str "skip")) aNil)) aNil)))) aNil))) (fC (.str "name")))) (sRet (fC (.bl false))) sNext)
    (sSeq (sIf (tstB (fOp uNe (fDef 2 (C 14) (aCons (fVar 2) (aCons (fTup (aCons (fTup (aCons (fTup (aCons (fVar 3) (aCons (fTup aNil) (aCons (fVar 6) aNil)))) (aCons (fTup (aCons (fC (.str "zz")) (aCons (fTup aNil) (aCons (fC (.str "com")) aNil)))) aNil))) (aCons (fC (.str "exp")) (aCons (fTup (aCons (fC (.str "num")) (aCons (fC (.int 1)) aNil))) aNil)))) aNil))) (fC (.str "name")))) (sRet (fC (.bl false))) sNext)
    (sSeq (sFor (iSeq (fLst (aCons (fTup (aCons (fTup (aCons (fTup (aCons (fVar 3) (aCons (fTup aNil) (aCons (fVar 6) aNil)))) aNil)) (aCons (fC (.str "com")) (aCons (fTup (aCons (fC (.str "skip")) aNil)) aNil)))) (aCons (fTup (aCons (fTup (aCons (fTup (aCons (fVar 3) (aCons (fTup (aCons (fC (.str "com")) aNil)) (aCons (fVar 4) aNil)))) aNil)) (aCons (fC (.str "com")) (aCons (fTup (aCons (fC (.str "skip")) aNil)) aNil)))) (aCons (fTup (aCons (fTup aNil) (aCons (fC (.str "exp")) (aCons (fTup (aCons (fC (.str "num")) (aCons (fC (.int 0)) aNil))) aNil)))) aNil))))) (.one 10) (sIf (tstB (fOp uNe (fDef 2 (C 14) (aCons (fVar 2) (aCons (fVar 10) aNil))) (fC (.str "bad kind")))) (sRet (fC (.bl false))) sNext))
    (sSeq (sAsg (.one 11) (fOp uAdd (fCall bLen (aCons (fOp ixU (fVar 2) (fC (.int 0))) aNil)) (fCall bLen (aCons (fOp ixU (fVar 2) (fC (.int 1))) aNil))))
    (sSeq (sIf (tOr' (tstB (fOp uNe (fDef 2 (C 14) (aCons (fVar 2) (aCons (fDef 1 (C 15) (aCons (fC (.int 199)) aNil)) aNil))) (fC (.str "large")))) (tstB (fOp uNe (fDef 2 (C 14) (aCons (fVar 2) (aCons (fDef 1 (C 16) (aCons (fOp uSub (fC (.int 31)) (fVar 11)) aNil)) aNil))) (fC (.str "large"))))) (sRet (fC (.bl false))) sNext)
    (sRet (fOp uEq (fDef 2 (C 14) (aCons (fVar 2) (aCons (fDef 1 (C 16) (aCons (fOp uSub (fC (.int 30)) (fVar 11)) aNil)) aNil))) (fC (.str "right"))))))))))))))))
def call : Nat → Calls
  | 0 => fun _ _ _ => .bad
  | k + 1 => fun i => match i with
    | 0 => runDef 7 (b_kids (call k))
    | 1 => runDef 4 (b_levels_of_parts (call k))
    | 2 => runDef 12 (b_nodes (call k))
    | 3 => runDef 5 (b_is_too_large (call k))
    | 4 => runDef 4 (b_with_variables (call k))
    | 5 => runDef 10 (b_check_client (call k))
    | 6 => runDef 8 (b_link (call k))
    | 7 => runDef 6 (b__law_stream (call k))
    | 8 => runDef 3 (b__law_pick (call k))
    | 9 => runDef 2 (b__law_next (call k))
    | 10 => runDef 7 (b__law_exp (call k))
    | 11 => runDef 7 (b__law_com (call k))
    | 12 => runDef 10 (b__law_module (call k))
    | 13 => runDef 5 (b__law_linked (call k))
    | 14 => runDef 4 (b__law_told (call k))
    | 15 => runDef 3 (b__law_long (call k))
    | 16 => runDef 3 (b__law_deep (call k))
    | 17 => runDef 12 (b_law (call k))
    | _ => fun _ _ => .bad
theorem call_kids (k : Nat) : call (k + 1) 0 = runDef 7 (b_kids (call k)) := rfl
theorem call_levels_of_parts (k : Nat) : call (k + 1) 1 = runDef 4 (b_levels_of_parts (call k)) := rfl
theorem call_nodes (k : Nat) : call (k + 1) 2 = runDef 12 (b_nodes (call k)) := rfl
theorem call_is_too_large (k : Nat) : call (k + 1) 3 = runDef 5 (b_is_too_large (call k)) := rfl
theorem call_with_variables (k : Nat) : call (k + 1) 4 = runDef 4 (b_with_variables (call k)) := rfl
theorem call_check_client (k : Nat) : call (k + 1) 5 = runDef 10 (b_check_client (call k)) := rfl
theorem call_link (k : Nat) : call (k + 1) 6 = runDef 8 (b_link (call k)) := rfl
theorem call__law_stream (k : Nat) : call (k + 1) 7 = runDef 6 (b__law_stream (call k)) := rfl
theorem call__law_pick (k : Nat) : call (k + 1) 8 = runDef 3 (b__law_pick (call k)) := rfl
theorem call__law_next (k : Nat) : call (k + 1) 9 = runDef 2 (b__law_next (call k)) := rfl
theorem call__law_exp (k : Nat) : call (k + 1) 10 = runDef 7 (b__law_exp (call k)) := rfl
theorem call__law_com (k : Nat) : call (k + 1) 11 = runDef 7 (b__law_com (call k)) := rfl
theorem call__law_module (k : Nat) : call (k + 1) 12 = runDef 10 (b__law_module (call k)) := rfl
theorem call__law_linked (k : Nat) : call (k + 1) 13 = runDef 5 (b__law_linked (call k)) := rfl
theorem call__law_told (k : Nat) : call (k + 1) 14 = runDef 4 (b__law_told (call k)) := rfl
theorem call__law_long (k : Nat) : call (k + 1) 15 = runDef 3 (b__law_long (call k)) := rfl
theorem call__law_deep (k : Nat) : call (k + 1) 16 = runDef 3 (b__law_deep (call k)) := rfl
theorem call_law (k : Nat) : call (k + 1) 17 = runDef 12 (b_law (call k)) := rfl
/-! ### what stands in the top -/
structure Facts (K : PySem.W.Frag) (mg : Str → Option Value) (w : World) (ad : Nat → Addr) (fd : Nat → FuncData) : Prop where
  F0 : FnP K "kids" s_kids (ad 0) (fd 0)
  b0 : Binds K (fd 0) ["term", "kind"] []
  m0 : mg "kids" = some (.ref (ad 0))
  F1 : FnP K "levels_of_parts" s_levels_of_parts (ad 1) (fd 1)
  b1 : Binds K (fd 1) ["term", "level", "many"] []
  m1 : mg "levels_of_parts" = some (.ref (ad 1))
  F2 : FnP K "nodes" s_nodes (ad 2) (fd 2)
  b2 : Binds K (fd 2) ["term", "kind"] []
  m2 : mg "nodes" = some (.ref (ad 2))
  F3 : FnP K "is_too_large" s_is_too_large (ad 3) (fd 3)
  b3 : Binds K (fd 3) ["term", "kind"] []
  m3 : mg "is_too_large" = some (.ref (ad 3))
  F4 : FnP K "with_variables" s_with_variables (ad 4) (fd 4)
  b4 : Binds K (fd 4) ["variables", "term"] []
  m4 : mg "with_variables" = some (.ref (ad 4))
  F5 : FnP K "check_client" s_check_client (ad 5) (fd 5)
  b5 : Binds K (fd 5) ["module", "client"] []
  m5 : mg "check_client" = some (.ref (ad 5))
  F6 : FnP K "link" s_link (ad 6) (fd 6)
  b6 : Binds K (fd 6) ["module", "client"] []
  m6 : mg "link" = some (.ref (ad 6))
  F7 : FnP K "_law_stream" s__law_stream (ad 7) (fd 7)
  b7 : Binds K (fd 7) ["script"] []
  m7 : mg "_law_stream" = some (.ref (ad 7))
  F8 : FnP K "_law_pick" s__law_pick (ad 8) (fd 8)
  b8 : Binds K (fd 8) ["numbers", "at", "many"] []
  m8 : mg "_law_pick" = some (.ref (ad 8))
  F9 : FnP K "_law_next" s__law_next (ad 9) (fd 9)
  b9 : Binds K (fd 9) ["state", "many"] []
  m9 : mg "_law_next" = some (.ref (ad 9))
  F10 : FnP K "_law_exp" s__law_exp (ad 10) (fd 10)
  b10 : Binds K (fd 10) ["state", "names", "depth"] []
  m10 : mg "_law_exp" = some (.ref (ad 10))
  F11 : FnP K "_law_com" s__law_com (ad 11) (fd 11)
  b11 : Binds K (fd 11) ["state", "names", "depth"] []
  m11 : mg "_law_com" = some (.ref (ad 11))
  F12 : FnP K "_law_module" s__law_module (ad 12) (fd 12)
  b12 : Binds K (fd 12) ["state", "depth"] []
  m12 : mg "_law_module" = some (.ref (ad 12))
  F13 : FnP K "_law_linked" s__law_linked (ad 13) (fd 13)
  b13 : Binds K (fd 13) ["module", "client"] []
  m13 : mg "_law_linked" = some (.ref (ad 13))
  F14 : FnP K "_law_told" s__law_told (ad 14) (fd 14)
  b14 : Binds K (fd 14) ["module", "client"] []
  m14 : mg "_law_told" = some (.ref (ad 14))
  F15 : FnP K "_law_long" s__law_long (ad 15) (fd 15)
  b15 : Binds K (fd 15) ["many"] []
  m15 : mg "_law_long" = some (.ref (ad 15))
  F16 : FnP K "_law_deep" s__law_deep (ad 16) (fd 16)
  b16 : Binds K (fd 16) ["levels"] []
  m16 : mg "_law_deep" = some (.ref (ad 16))
  F17 : FnP K "law" s_law (ad 17) (fd 17)
  b17 : Binds K (fd 17) ["script"] []
  m17 : mg "law" = some (.ref (ad 17))
  z_int : mg "int" = none
  z_isinstance : mg "isinstance" = none
  z_len : mg "len" = none
  z_max : mg "max" = none
  z_range : mg "range" = none
  z_reversed : mg "reversed" = none
  z_tuple : mg "tuple" = none
  z_zip : mg "zip" = none
  c_FORMS : KTab K mg w "FORMS" tab_FORMS
  c_KINDS : GlobC K mg "KINDS" (.tup [(.str "com"), (.str "exp")])
  c_MAX_LEVEL : GlobC K mg "MAX_LEVEL" (.int 30)
  c_MAX_NODES : GlobC K mg "MAX_NODES" (.int 400)
  x_BadKind : Exn K mg "BadKind"
  x_BadName : Exn K mg "BadName"
  x_TooLarge : Exn K mg "TooLarge"
  xm_BadKind_BadKind : Exm K mg "BadKind" "BadKind" true
  xm_BadKind_BadName : Exm K mg "BadKind" "BadName" false
  xm_BadKind_TooLarge : Exm K mg "BadKind" "TooLarge" false
  xm_BadName_BadKind : Exm K mg "BadName" "BadKind" false
  xm_BadName_BadName : Exm K mg "BadName" "BadName" true
  xm_BadName_TooLarge : Exm K mg "BadName" "TooLarge" false
  xm_DoppelError_BadKind : Exm K mg "DoppelError" "BadKind" false
  xm_DoppelError_BadName : Exm K mg "DoppelError" "BadName" false
  xm_DoppelError_TooLarge : Exm K mg "DoppelError" "TooLarge" false
  xm_NotAllowed_BadKind : Exm K mg "NotAllowed" "BadKind" false
  xm_NotAllowed_BadName : Exm K mg "NotAllowed" "BadName" false
  xm_NotAllowed_TooLarge : Exm K mg "NotAllowed" "TooLarge" false
  xm_TooLarge_BadKind : Exm K mg "TooLarge" "BadKind" false
  xm_TooLarge_BadName : Exm K mg "TooLarge" "BadName" false
  xm_TooLarge_TooLarge : Exm K mg "TooLarge" "TooLarge" true
  is_BadKind_BadKind : Isx K mg "BadKind" "BadKind" true
  is_BadKind_BadName : Isx K mg "BadKind" "BadName" false
  is_BadKind_DoppelError : Isx K mg "BadKind" "DoppelError" true
  is_BadKind_NotAllowed : Isx K mg "BadKind" "NotAllowed" false
  is_BadKind_TooLarge : Isx K mg "BadKind" "TooLarge" false
  is_BadName_BadKind : Isx K mg "BadName" "BadKind" false
  is_BadName_BadName : Isx K mg "BadName" "BadName" true
  is_BadName_DoppelError : Isx K mg "BadName" "DoppelError" true
  is_BadName_NotAllowed : Isx K mg "BadName" "NotAllowed" false
  is_BadName_TooLarge : Isx K mg "BadName" "TooLarge" false
  is_DoppelError_BadKind : Isx K mg "DoppelError" "BadKind" false
  is_DoppelError_BadName : Isx K mg "DoppelError" "BadName" false
  is_DoppelError_DoppelError : Isx K mg "DoppelError" "DoppelError" true
  is_DoppelError_NotAllowed : Isx K mg "DoppelError" "NotAllowed" false
  is_DoppelError_TooLarge : Isx K mg "DoppelError" "TooLarge" false
  is_NotAllowed_BadKind : Isx K mg "NotAllowed" "BadKind" false
  is_NotAllowed_BadName : Isx K mg "NotAllowed" "BadName" false
  is_NotAllowed_DoppelError : Isx K mg "NotAllowed" "DoppelError" true
  is_NotAllowed_NotAllowed : Isx K mg "NotAllowed" "NotAllowed" true
  is_NotAllowed_TooLarge : Isx K mg "NotAllowed" "TooLarge" false
  is_TooLarge_BadKind : Isx K mg "TooLarge" "BadKind" false
  is_TooLarge_BadName : Isx K mg "TooLarge" "BadName" false
  is_TooLarge_DoppelError : Isx K mg "TooLarge" "DoppelError" true
  is_TooLarge_NotAllowed : Isx K mg "TooLarge" "NotAllowed" false
  is_TooLarge_TooLarge : Isx K mg "TooLarge" "TooLarge" true
structure Tab (P : Program) (w : World) (K : PySem.W.Frag) (mg : Str → Option Value) (base : Heap) (ad : Nat → Addr) (fd : Nat → FuncData) (k : Nat) (C : Calls) : Prop where
  G0 : FnOk P w K mg base (L2.CX P w) k (ad 0) (fd 0) ["term", "kind"] (spF K mg 2 (C 0))
  G1 : FnOk P w K mg base (L2.CX P w) k (ad 1) (fd 1) ["term", "level", "many"] (spF K mg 3 (C 1))
  G2 : FnOk P w K mg base (L2.CX P w) k (ad 2) (fd 2) ["term", "kind"] (spF K mg 2 (C 2))
  G3 : FnOk P w K mg base (L2.CX P w) k (ad 3) (fd 3) ["term", "kind"] (spF K mg 2 (C 3))
  G4 : FnOk P w K mg base (L2.CX P w) k (ad 4) (fd 4) ["variables", "term"] (spF K mg 2 (C 4))
  G5 : FnOk P w K mg base (L2.CX P w) k (ad 5) (fd 5) ["module", "client"] (spF K mg 2 (C 5))
  G6 : FnOk P w K mg base (L2.CX P w) k (ad 6) (fd 6) ["module", "client"] (spF K mg 2 (C 6))
  G7 : FnOk P w K mg base (L2.CX P w) k (ad 7) (fd 7) ["script"] (spF K mg 1 (C 7))
  G8 : FnOk P w K mg base (L2.CX P w) k (ad 8) (fd 8) ["numbers", "at", "many"] (spF K mg 3 (C 8))
  G9 : FnOk P w K mg base (L2.CX P w) k (ad 9) (fd 9) ["state", "many"] (spF K mg 2 (C 9))
  G10 : FnOk P w K mg base (L2.CX P w) k (ad 10) (fd 10) ["state", "names", "depth"] (spF K mg 3 (C 10))
  G11 : FnOk P w K mg base (L2.CX P w) k (ad 11) (fd 11) ["state", "names", "depth"] (spF K mg 3 (C 11))
  G12 : FnOk P w K mg base (L2.CX P w) k (ad 12) (fd 12) ["state", "depth"] (spF K mg 2 (C 12))
  G13 : FnOk P w K mg base (L2.CX P w) k (ad 13) (fd 13) ["module", "client"] (spF K mg 2 (C 13))
  G14 : FnOk P w K mg base (L2.CX P w) k (ad 14) (fd 14) ["module", "client"] (spF K mg 2 (C 14))
  G15 : FnOk P w K mg base (L2.CX P w) k (ad 15) (fd 15) ["many"] (spF K mg 1 (C 15))
  G16 : FnOk P w K mg base (L2.CX P w) k (ad 16) (fd 16) ["levels"] (spF K mg 1 (C 16))
  G17 : FnOk P w K mg base (L2.CX P w) k (ad 17) (fd 17) ["script"] (spF K mg 1 (C 17))
section
variable {P : Program} {w : World} {K : PySem.W.Frag} {mg : Str → Option Value} {base : Heap} {ad : Nat → Addr} {fd : Nat → FuncData} {k : Nat} {C : Calls}
end
end Lw
namespace Lw
open PySem PySem.Spec PyProof.Rows L2 RZ Dg
section
variable {P : Program} {w : World} {K : PySem.W.Frag} {mg : Str → Option Value} {base : Heap} {ad : Nat → Addr} {fd : Nat → FuncData} {k : Nat} {C : Calls}
theorem ok_kids (Fx : Facts K mg w ad fd) (T : Tab P w K mg base ad fd (k + 40) C) : FnOk P w K mg base (L2.CX P w) (k + 41) (ad 0) (fd 0) ["term", "kind"] (spF K mg 2 (runDef 7 (b_kids C))) :=
  defD_ok (N := N_kids) (ps := ["term", "kind"]) Fx.F0 sc_kids (fun cdv A outer s H E G =>
    (css_cons (cs_set (i := 2) sc_kids.nd rfl (Or.inl rfl) (ce_lst ca_nil))
    (css_cons (cs_asg (ce_kget rfl Fx.c_FORMS (ce_sub G (ce_var 0) ce_int)) (cg_tup G.calm (cgs_cons (cg_one (i := 3) sc_kids.nd rfl (Or.inl rfl)) (cgs_cons (cg_one (i := 4) sc_kids.nd rfl (Or.inl rfl)) cgs_nil))) (fun he hg => ps_asg he hg))
    (css_cons (cs_for G (ci_zip (ce_var 4) (ce_slice (ce_var 0) (co_some ce_int) co_none) (fun ha => pi_zipA rfl Fx.z_zip ha)) (cg_tup G.calm (cgs_cons (cg_one (i := 5) sc_kids.nd rfl (Or.inl rfl)) (cgs_cons (cg_one (i := 6) sc_kids.nd rfl (Or.inl rfl)) cgs_nil))) (css_one (cs_if (ct_cmp (os_in G) (ce_var 5) (ce_globC rfl Fx.c_KINDS) (by rfl)) (css_one (cs_expr (ce_mtL gs_append (ce_var 2) (ca_cons (ce_tup (ca_cons (ce_var 5) (ca_cons (ce_var 6) ca_nil))) ca_nil) (fun hm ho ha => pe_bm PySem.F.plainAttrs_list PySem.F.slot_list_append PySem.F.type_list_append hm ho ha)))) (css_one (cs_if (ct_cmp (os_eq G) (ce_var 5) ce_str (nomark _)) (css_one (cs_expr (ce_mtL gs_append (ce_var 2) (ca_cons (ce_tup (ca_cons (ce_var 1) (ca_cons (ce_var 6) ca_nil))) ca_nil) (fun hm ho ha => pe_bm PySem.F.plainAttrs_list PySem.F.slot_list_append PySem.F.type_list_append hm ho ha)))) (css_one (cs_if (ct_cmp (os_eq G) (ce_var 5) ce_str (nomark _)) (css_one (cs_expr (ce_mtL gs_append (ce_var 2) (ca_cons (ce_tup (ca_cons (ce_sub G (ce_var 0) ce_int) (ca_cons (ce_var 6) ca_nil))) ca_nil) (fun hm ho ha => pe_bm PySem.F.plainAttrs_list PySem.F.slot_list_append PySem.F.type_list_append hm ho ha)))) (css_one (cs_if (ct_cmp (os_eq G) (ce_var 5) ce_str (nomark _)) (css_one (cs_expr (ce_mtL gs_ext (ce_var 2) (ca_cons (ce_var 6) ca_nil) (fun hm ho ha => pe_bm PySem.F.plainAttrs_list PySem.F.slot_list_extend PySem.F.type_list_extend hm ho ha)))) css_nil)))))))))
    (css_one (cs_ret (ce_var 2)))))))
end
end Lw
namespace Lw
open PySem PySem.Spec PyProof.Rows L2 RZ Dg
section
variable {P : Program} {w : World} {K : PySem.W.Frag} {mg : Str → Option Value} {base : Heap} {ad : Nat → Addr} {fd : Nat → FuncData} {k : Nat} {C : Calls}
theorem ok_levels_of_parts (Fx : Facts K mg w ad fd) (T : Tab P w K mg base ad fd (k + 40) C) : FnOk P w K mg base (L2.CX P w) (k + 41) (ad 1) (fd 1) ["term", "level", "many"] (spF K mg 3 (runDef 4 (b_levels_of_parts C))) :=
  defD_ok (N := N_levels_of_parts) (ps := ["term", "level", "many"]) Fx.F1 sc_levels_of_parts (fun cdv A outer s H E G =>
    (css_cons (cs_set (i := 3) sc_levels_of_parts.nd rfl (Or.inl rfl) (ce_op os_mul (ce_lst (ca_cons (ce_op os_add (ce_var 1) ce_int) ca_nil)) (ce_var 2)))
    (css_cons (cs_if (CW.ct (cw_and (ct_cmp (os_eq G) (ce_sub G (ce_var 0) ce_int) ce_str (nomark _)) (cw_and1 (ct_cmp (os_eq G) (ce_sub G (ce_sub G (ce_var 0) ce_int) ce_int) ce_str (nomark _))))) (css_one (cs_store G (ce_var 3) ce_int (ce_var 1) (fun ho hi he => ps_asg he (pg_sub ho hi set_list)) (fun ho hi he => ps_dput G.hu ho hi he rfl))) css_nil)
    (css_one (cs_ret (ce_var 3))))))
end
end Lw
namespace Lw
open PySem PySem.Spec PyProof.Rows L2 RZ Dg
section
variable {P : Program} {w : World} {K : PySem.W.Frag} {mg : Str → Option Value} {base : Heap} {ad : Nat → Addr} {fd : Nat → FuncData} {k : Nat} {C : Calls}
theorem ok_nodes (Fx : Facts K mg w ad fd) (T : Tab P w K mg base ad fd (k + 40) C) : FnOk P w K mg base (L2.CX P w) (k + 41) (ad 2) (fd 2) ["term", "kind"] (spF K mg 2 (runDef 12 (b_nodes C))) :=
  defD_ok (N := N_nodes) (ps := ["term", "kind"]) Fx.F2 sc_nodes (fun cdv A outer s H E G =>
    (css_cons (cs_set (i := 2) sc_nodes.nd rfl (Or.inl rfl) (ce_lst ca_nil))
    (css_cons (cs_set (i := 3) sc_nodes.nd rfl (Or.inl rfl) (ce_lst (ca_cons (ce_tup (ca_cons (ce_var 1) (ca_cons (ce_var 0) (ca_cons ce_int ca_nil)))) ca_nil)))
    (css_cons (cs_while fuelF G (ct_val (ce_var 3)) (css_cons (cs_asg (ce_mtL0 gs_pop (ce_var 3) (fun hm ho => pe_bm0 PySem.F.plainAttrs_list PySem.F.slot_list_pop PySem.F.type_list_pop hm ho)) (cg_tup G.calm (cgs_cons (cg_one (i := 4) sc_nodes.nd rfl (Or.inl rfl)) (cgs_cons (cg_one (i := 5) sc_nodes.nd rfl (Or.inl rfl)) (cgs_cons (cg_one (i := 6) sc_nodes.nd rfl (Or.inl rfl)) cgs_nil)))) (fun he hg => ps_asg he hg))
    (css_cons (cs_expr (ce_mtL gs_append (ce_var 2) (ca_cons (ce_tup (ca_cons (ce_var 4) (ca_cons (ce_var 5) (ca_cons (ce_var 6) ca_nil)))) ca_nil) (fun hm ho ha => pe_bm PySem.F.plainAttrs_list PySem.F.slot_list_append PySem.F.type_list_append hm ho ha)))
    (css_cons (cs_set (i := 7) sc_nodes.nd rfl (Or.inl rfl) (ce_def G (Nat.le_refl _) T.G0 (ca_cons (ce_var 5) (ca_cons (ce_var 4) ca_nil)) (fun hx ha => pe_callS T.G0 G.room rfl Fx.m0 Fx.F0.kp Fx.b0 hx ha)))
    (css_cons (cs_set (i := 8) sc_nodes.nd rfl (Or.inl rfl) (ce_def G (Nat.le_refl _) T.G1 (ca_cons (ce_var 5) (ca_cons (ce_var 6) (ca_cons (ce_callB cs_len rfl Fx.z_len bt_len (ca_cons (ce_var 7) ca_nil) (fun hc ha => pe_callB hc rfl Fx.z_len bt_len ha)) ca_nil))) (fun hx ha => pe_callS T.G1 G.room rfl Fx.m1 Fx.F1.kp Fx.b1 hx ha)))
    (css_one (cs_for G (ci_rev1 rfl Fx.z_reversed rfl Fx.z_range (ce_callB cs_len rfl Fx.z_len bt_len (ca_cons (ce_var 7) ca_nil) (fun hc ha => pe_callB hc rfl Fx.z_len bt_len ha)) (fun ha => pi_revR rfl Fx.z_reversed (prg_1 rfl Fx.z_range ha))) (cg_one (i := 9) sc_nodes.nd rfl (Or.inl rfl)) (css_cons (cs_asg (ce_sub G (ce_var 7) (ce_var 9)) (cg_tup G.calm (cgs_cons (cg_one (i := 10) sc_nodes.nd rfl (Or.inl rfl)) (cgs_cons (cg_one (i := 11) sc_nodes.nd rfl (Or.inl rfl)) cgs_nil))) (fun he hg => ps_asg he hg))
    (css_one (cs_expr (ce_mtL gs_append (ce_var 3) (ca_cons (ce_tup (ca_cons (ce_var 10) (ca_cons (ce_var 11) (ca_cons (ce_sub G (ce_var 8) (ce_var 9)) ca_nil)))) ca_nil) (fun hm ho ha => pe_bm PySem.F.plainAttrs_list PySem.F.slot_list_append PySem.F.type_list_append hm ho ha))))))))))))
    (css_one (cs_ret (ce_var 2)))))))
end
end Lw
namespace Lw
open PySem PySem.Spec PyProof.Rows L2 RZ Dg
section
variable {P : Program} {w : World} {K : PySem.W.Frag} {mg : Str → Option Value} {base : Heap} {ad : Nat → Addr} {fd : Nat → FuncData} {k : Nat} {C : Calls}
theorem ok_is_too_large (Fx : Facts K mg w ad fd) (T : Tab P w K mg base ad fd (k + 40) C) : FnOk P w K mg base (L2.CX P w) (k + 41) (ad 3) (fd 3) ["term", "kind"] (spF K mg 2 (runDef 5 (b_is_too_large C))) :=
  defD_ok (N := N_is_too_large) (ps := ["term", "kind"]) Fx.F3 sc_is_too_large (fun cdv A outer s H E G =>
    (css_cons (cs_set (i := 2) sc_is_too_large.nd rfl (Or.inl rfl) (ce_def G (Nat.le_refl _) T.G2 (ca_cons (ce_var 0) (ca_cons (ce_var 1) ca_nil)) (fun hx ha => pe_callS T.G2 G.room rfl Fx.m2 Fx.F2.kp Fx.b2 hx ha)))
    (css_one (cs_ret (ce_or (ce_cmp os_gt (ce_callB cs_len rfl Fx.z_len bt_len (ca_cons (ce_var 2) ca_nil) (fun hc ha => pe_callB hc rfl Fx.z_len bt_len ha)) (ce_globC rfl Fx.c_MAX_NODES) (nomark _)) (ce_one (ce_cmp os_gt (ce_callB (cs_max G.calm) rfl Fx.z_max bt_max (ca_cons (ce_lc (own := [("_", 3), ("_", 3), ("level", 4)]) G sc_is_too_large.nd (blkOk_by (own := [("_", 3), ("_", 3), ("level", 4)]) (N := N_is_too_large) (sc := defScope s_is_too_large) (by decide +kernel)) (ci_seq (ce_var 2)) (fun s0 H0 C0 cl fp => have G := Good.blk (s := s0) (H := H0) (fp := fp) G; (cg_tup G.calm (cgs_cons (cg_one (i := 3) sc_is_too_large.nd rfl (Or.inl rfl)) (cgs_cons (cg_one (i := 3) sc_is_too_large.nd rfl (Or.inl rfl)) (cgs_cons (cg_one (i := 4) sc_is_too_large.nd rfl (Or.inl rfl)) cgs_nil))))) (fun s0 H0 C0 cl fp => cts_nil) (fun s0 H0 C0 cl fp => (ce_var 4)) rfl) ca_nil) (fun hc ha => pe_callB hc rfl Fx.z_max bt_max ha)) (ce_globC rfl Fx.c_MAX_LEVEL) (nomark _))))))))
end
end Lw
namespace Lw
open PySem PySem.Spec PyProof.Rows L2 RZ Dg
section
variable {P : Program} {w : World} {K : PySem.W.Frag} {mg : Str → Option Value} {base : Heap} {ad : Nat → Addr} {fd : Nat → FuncData} {k : Nat} {C : Calls}
theorem ok_with_variables (Fx : Facts K mg w ad fd) (T : Tab P w K mg base ad fd (k + 40) C) : FnOk P w K mg base (L2.CX P w) (k + 41) (ad 4) (fd 4) ["variables", "term"] (spF K mg 2 (runDef 4 (b_with_variables C))) :=
  defD_ok (N := N_with_variables) (ps := ["variables", "term"]) Fx.F4 sc_with_variables (fun cdv A outer s H E G =>
    (css_cons (cs_for G (ci_rev (ce_var 0) (fun he => RT.pi_revA rfl Fx.z_reversed he)) (cg_tup G.calm (cgs_cons (cg_one (i := 2) sc_with_variables.nd rfl (Or.inl rfl)) (cgs_cons (cg_one (i := 3) sc_with_variables.nd rfl (Or.inl rfl)) cgs_nil))) (css_one (cs_set (i := 1) sc_with_variables.nd rfl (Or.inl rfl) (ce_tup (ca_cons ce_str (ca_cons (ce_var 2) (ca_cons (ce_tup (ca_cons ce_str (ca_cons (ce_var 3) ca_nil))) (ca_cons (ce_var 1) ca_nil))))))))
    (css_one (cs_ret (ce_var 1)))))
end
end Lw
namespace Lw
open PySem PySem.Spec PyProof.Rows L2 RZ Dg
section
variable {P : Program} {w : World} {K : PySem.W.Frag} {mg : Str → Option Value} {base : Heap} {ad : Nat → Addr} {fd : Nat → FuncData} {k : Nat} {C : Calls}
theorem ok_check_client (Fx : Facts K mg w ad fd) (T : Tab P w K mg base ad fd (k + 40) C) : FnOk P w K mg base (L2.CX P w) (k + 41) (ad 5) (fd 5) ["module", "client"] (spF K mg 2 (runDef 10 (b_check_client C))) :=
  defD_ok (N := N_check_client) (ps := ["module", "client"]) Fx.F5 sc_check_client (fun cdv A outer s H E G =>
    (css_cons (cs_asg (ce_var 1) (cg_tup G.calm (cgs_cons (cg_one (i := 2) sc_check_client.nd rfl (Or.inl rfl)) (cgs_cons (cg_one (i := 3) sc_check_client.nd rfl (Or.inl rfl)) (cgs_cons (cg_one (i := 4) sc_check_client.nd rfl (Or.inl rfl)) cgs_nil)))) (fun he hg => ps_asg he hg))
    (css_cons (cs_setDcK (W0 := fun _ _ _ _ => False) (i := 5) (own := [("name", 6), ("kind_of_operation", 9), ("_", 4)]) G sc_check_client.nd rfl rfl (sw_trueD rfl rfl rfl (by decide +kernel)) (blkOk_by (own := [("name", 6), ("kind_of_operation", 9), ("_", 4)]) (N := N_check_client) (sc := defScope s_check_client) (by decide +kernel)) (ci_seq (ce_sub G (ce_var 0) ce_int)) (fun s0 H0 C0 cl fp => have G := Good.blk (s := s0) (H := H0) (fp := fp) G; (cg_tup G.calm (cgs_cons (cg_one (i := 6) sc_check_client.nd rfl (Or.inl rfl)) (cgs_cons (cg_one (i := 9) sc_check_client.nd rfl (Or.inl rfl)) (cgs_cons (cg_one (i := 4) sc_check_client.nd rfl (Or.inl rfl)) cgs_nil))))) (fun s0 H0 C0 cl fp => cts_nil) (fun s0 H0 C0 cl fp => (ce_var 6)) (fun s0 H0 C0 cl fp => (ce_var 9)) rfl)
    (css_cons (cs_for G (ci_seq (ce_var 2)) (cg_tup G.calm (cgs_cons (cg_one (i := 6) sc_check_client.nd rfl (Or.inl rfl)) (cgs_cons (cg_one (i := 4) sc_check_client.nd rfl (Or.inl rfl)) (cgs_cons (cg_one (i := 4) sc_check_client.nd rfl (Or.inl rfl)) cgs_nil)))) (css_one (cs_if (ct_cmp (os_nin G) (ce_var 6) (ce_var 5) (by rfl)) (css_one (cs_raiseN G Fx.x_BadName rfl (ce_joined (.cons (ce_fmt (ce_var 6)) (.cons ce_str .nil))))) css_nil)))
    (css_cons (cs_if (ct_cmp (os_ne G) (ce_var 3) ce_str (nomark _)) (css_one (cs_raiseN G Fx.x_BadKind rfl ce_str)) css_nil)
    (css_one (cs_for G (ci_seq (ce_var 2)) (cg_tup G.calm (cgs_cons (cg_one (i := 6) sc_check_client.nd rfl (Or.inl rfl)) (cgs_cons (cg_one (i := 7) sc_check_client.nd rfl (Or.inl rfl)) (cgs_cons (cg_one (i := 8) sc_check_client.nd rfl (Or.inl rfl)) cgs_nil)))) (css_one (cs_if (CW.ct (cw_or (ct_val (ce_var 7)) (cw_or1 (ct_cmp (os_ne G) (ce_var 8) (ce_sub G (ce_var 5) (ce_var 6)) (nomark _))))) (css_one (cs_raiseN G Fx.x_BadKind rfl (ce_joined (.cons (ce_fmt (ce_var 6)) (.cons ce_str .nil))))) css_nil)))))))))
end
end Lw
namespace Lw
open PySem PySem.Spec PyProof.Rows L2 RZ Dg
section
variable {P : Program} {w : World} {K : PySem.W.Frag} {mg : Str → Option Value} {base : Heap} {ad : Nat → Addr} {fd : Nat → FuncData} {k : Nat} {C : Calls}
theorem ok_link (Fx : Facts K mg w ad fd) (T : Tab P w K mg base ad fd (k + 40) C) : FnOk P w K mg base (L2.CX P w) (k + 41) (ad 6) (fd 6) ["module", "client"] (spF K mg 2 (runDef 8 (b_link C))) :=
  defD_ok (N := N_link) (ps := ["module", "client"]) Fx.F6 sc_link (fun cdv A outer s H E G =>
    (css_cons (cs_expr (ce_def G (Nat.le_refl _) T.G5 (ca_cons (ce_var 0) (ca_cons (ce_var 1) ca_nil)) (fun hx ha => pe_callS T.G5 G.room rfl Fx.m5 Fx.F5.kp Fx.b5 hx ha)))
    (css_cons (cs_asg (ce_var 0) (cg_tup G.calm (cgs_cons (cg_one (i := 2) sc_link.nd rfl (Or.inl rfl)) (cgs_cons (cg_one (i := 3) sc_link.nd rfl (Or.inl rfl)) cgs_nil))) (fun he hg => ps_asg he hg))
    (css_cons (cs_set (i := 4) sc_link.nd rfl (Or.inl rfl) (ce_sub G (ce_var 1) ce_int))
    (css_cons (cs_for G (ci_rev (ce_var 3) (fun he => RT.pi_revA rfl Fx.z_reversed he)) (cg_tup G.calm (cgs_cons (cg_one (i := 5) sc_link.nd rfl (Or.inl rfl)) (cgs_cons (cg_one (i := 6) sc_link.nd rfl (Or.inl rfl)) (cgs_cons (cg_one (i := 7) sc_link.nd rfl (Or.inl rfl)) cgs_nil)))) (css_one (cs_set (i := 4) sc_link.nd rfl (Or.inl rfl) (ce_tup (ca_cons ce_str (ca_cons (ce_var 5) (ca_cons (ce_tup ca_nil) (ca_cons (ce_var 6) (ca_cons (ce_var 7) (ca_cons (ce_var 4) ca_nil))))))))))
    (css_cons (cs_set (i := 4) sc_link.nd rfl (Or.inl rfl) (ce_def G (Nat.le_refl _) T.G4 (ca_cons (ce_var 2) (ca_cons (ce_var 4) ca_nil)) (fun hx ha => pe_callS T.G4 G.room rfl Fx.m4 Fx.F4.kp Fx.b4 hx ha)))
    (css_cons (cs_if (ct_val (ce_def G (Nat.le_refl _) T.G3 (ca_cons (ce_var 4) (ca_cons ce_str ca_nil)) (fun hx ha => pe_callS T.G3 G.room rfl Fx.m3 Fx.F3.kp Fx.b3 hx ha))) (css_one (cs_raiseN G Fx.x_TooLarge rfl ce_str)) css_nil)
    (css_one (cs_ret (ce_tup (ca_cons (ce_tup ca_nil) (ca_cons ce_str (ca_cons (ce_var 4) ca_nil)))))))))))))
end
end Lw
namespace Lw
open PySem PySem.Spec PyProof.Rows L2 RZ Dg
section
variable {P : Program} {w : World} {K : PySem.W.Frag} {mg : Str → Option Value} {base : Heap} {ad : Nat → Addr} {fd : Nat → FuncData} {k : Nat} {C : Calls}
theorem ok__law_stream (Fx : Facts K mg w ad fd) (T : Tab P w K mg base ad fd (k + 40) C) : FnOk P w K mg base (L2.CX P w) (k + 41) (ad 7) (fd 7) ["script"] (spF K mg 1 (runDef 6 (b__law_stream C))) :=
  defD_ok (N := N__law_stream) (ps := ["script"]) Fx.F7 sc__law_stream (fun cdv A outer s H E G =>
    (css_cons (cs_set (i := 1) sc__law_stream.nd rfl (Or.inl rfl) (ce_lst ca_nil))
    (css_cons (cs_for G (ci_seq (ce_slice (ce_var 0) co_none (co_some ce_int))) (cg_one (i := 2) sc__law_stream.nd rfl (Or.inl rfl)) (css_cons (cs_set (i := 3) sc__law_stream.nd rfl (Or.inl rfl) (ce_callT cs_int rfl Fx.z_int bt_int (ca_cons (ce_var 2) ca_nil) (fun hc ha => pe_callTy hc rfl Fx.z_int bt_int ha)))
    (css_one (cs_if (ct_cmp (os_geX G) (ce_var 3) (ce_op os_pow ce_int ce_int) (nomark _)) (css_one (cs_for G (ci_rg1 rfl Fx.z_range ce_int) (cg_one (i := 4) sc__law_stream.nd rfl (Or.inl rfl)) (css_cons (cs_expr (ce_mtL gs_append (ce_var 1) (ca_cons (ce_op os_mod (ce_callT cs_int rfl Fx.z_int bt_int (ca_cons (ce_var 3) ca_nil) (fun hc ha => pe_callTy hc rfl Fx.z_int bt_int ha)) ce_int) ca_nil) (fun hm ho ha => pe_bm PySem.F.plainAttrs_list PySem.F.slot_list_append PySem.F.type_list_append hm ho ha)))
    (css_cons (cs_set (i := 3) sc__law_stream.nd rfl (Or.inl rfl) (ce_op os_fdiv (ce_var 3) ce_int))
    (css_one (cs_if (ct_cmp (os_eq G) (ce_var 3) ce_int (nomark _)) (css_one cs_brk) css_nil)))))) (css_cons (cs_set (i := 5) sc__law_stream.nd rfl (Or.inl rfl) (ce_op os_mod (ce_callT cs_int rfl Fx.z_int bt_int (ca_cons (ce_var 3) ca_nil) (fun hc ha => pe_callTy hc rfl Fx.z_int bt_int ha)) ce_int))
    (css_one (cs_for G (ci_rg1 rfl Fx.z_range ce_int) (cg_one (i := 4) sc__law_stream.nd rfl (Or.inl rfl)) (css_cons (cs_set (i := 5) sc__law_stream.nd rfl (Or.inl rfl) (ce_op os_mod (ce_callT cs_int rfl Fx.z_int bt_int (ca_cons (ce_op os_add (ce_op os_add (ce_op os_mul (ce_var 5) ce_int) (ce_op os_mul ce_int (ce_var 4))) ce_int) ca_nil) (fun hc ha => pe_callTy hc rfl Fx.z_int bt_int ha)) ce_int))
    (css_one (cs_expr (ce_mtL gs_append (ce_var 1) (ca_cons (ce_op os_mod (ce_op os_mod (ce_callT cs_int rfl Fx.z_int bt_int (ca_cons (ce_op os_add (ce_op os_mul (ce_var 5) ce_int) (ce_var 4)) ca_nil) (fun hc ha => pe_callTy hc rfl Fx.z_int bt_int ha)) ce_int) ce_int) ca_nil) (fun hm ho ha => pe_bm PySem.F.plainAttrs_list PySem.F.slot_list_append PySem.F.type_list_append hm ho ha))))))))))))
    (css_cons (cs_if (ct_cmp (os_eq G) (ce_callB cs_len rfl Fx.z_len bt_len (ca_cons (ce_var 1) ca_nil) (fun hc ha => pe_callB hc rfl Fx.z_len bt_len ha)) ce_int (nomark _)) (css_one (cs_expr (ce_mtL gs_append (ce_var 1) (ca_cons ce_int ca_nil) (fun hm ho ha => pe_bm PySem.F.plainAttrs_list PySem.F.slot_list_append PySem.F.type_list_append hm ho ha)))) css_nil)
    (css_one (cs_ret (ce_var 1)))))))
end
end Lw
namespace Lw
open PySem PySem.Spec PyProof.Rows L2 RZ Dg
section
variable {P : Program} {w : World} {K : PySem.W.Frag} {mg : Str → Option Value} {base : Heap} {ad : Nat → Addr} {fd : Nat → FuncData} {k : Nat} {C : Calls}
theorem ok__law_pick (Fx : Facts K mg w ad fd) (T : Tab P w K mg base ad fd (k + 40) C) : FnOk P w K mg base (L2.CX P w) (k + 41) (ad 8) (fd 8) ["numbers", "at", "many"] (spF K mg 3 (runDef 3 (b__law_pick C))) :=
  defD_ok (N := N__law_pick) (ps := ["numbers", "at", "many"]) Fx.F8 sc__law_pick (fun cdv A outer s H E G =>
    (css_one (cs_ret (ce_op os_mod (ce_callT cs_int rfl Fx.z_int bt_int (ca_cons (ce_sub G (ce_var 0) (ce_op os_mod (ce_var 1) (ce_callB cs_len rfl Fx.z_len bt_len (ca_cons (ce_var 0) ca_nil) (fun hc ha => pe_callB hc rfl Fx.z_len bt_len ha)))) ca_nil) (fun hc ha => pe_callTy hc rfl Fx.z_int bt_int ha)) (ce_var 2)))))
end
end Lw
namespace Lw
open PySem PySem.Spec PyProof.Rows L2 RZ Dg
section
variable {P : Program} {w : World} {K : PySem.W.Frag} {mg : Str → Option Value} {base : Heap} {ad : Nat → Addr} {fd : Nat → FuncData} {k : Nat} {C : Calls}
theorem ok__law_next (Fx : Facts K mg w ad fd) (T : Tab P w K mg base ad fd (k + 40) C) : FnOk P w K mg base (L2.CX P w) (k + 41) (ad 9) (fd 9) ["state", "many"] (spF K mg 2 (runDef 2 (b__law_next C))) :=
  defD_ok (N := N__law_next) (ps := ["state", "many"]) Fx.F9 sc__law_next (fun cdv A outer s H E G =>
    (css_cons (cs_store G (ce_var 0) ce_int (ce_op os_add (ce_sub G (ce_var 0) ce_int) ce_int) (fun ho hi he => ps_asg he (pg_sub ho hi set_list)) (fun ho hi he => ps_dput G.hu ho hi he rfl))
    (css_one (cs_ret (ce_op os_mod (ce_callT cs_int rfl Fx.z_int bt_int (ca_cons (ce_sub G (ce_sub G (ce_var 0) ce_int) (ce_op os_mod (ce_sub G (ce_var 0) ce_int) (ce_callB cs_len rfl Fx.z_len bt_len (ca_cons (ce_sub G (ce_var 0) ce_int) ca_nil) (fun hc ha => pe_callB hc rfl Fx.z_len bt_len ha)))) ca_nil) (fun hc ha => pe_callTy hc rfl Fx.z_int bt_int ha)) (ce_var 1))))))
end
end Lw
namespace Lw
open PySem PySem.Spec PyProof.Rows L2 RZ Dg
section
variable {P : Program} {w : World} {K : PySem.W.Frag} {mg : Str → Option Value} {base : Heap} {ad : Nat → Addr} {fd : Nat → FuncData} {k : Nat} {C : Calls}
theorem ok__law_exp (Fx : Facts K mg w ad fd) (T : Tab P w K mg base ad fd (k + 40) C) : FnOk P w K mg base (L2.CX P w) (k + 41) (ad 10) (fd 10) ["state", "names", "depth"] (spF K mg 3 (runDef 7 (b__law_exp C))) :=
  defD_ok (N := N__law_exp) (ps := ["state", "names", "depth"]) Fx.F10 sc__law_exp (fun cdv A outer s H E G =>
    (css_cons (cs_set (i := 3) sc__law_exp.nd rfl (Or.inl rfl) (ce_def G (Nat.le_refl _) T.G9 (ca_cons (ce_var 0) (ca_cons (ce_sub G (ce_lst (ca_cons ce_int (ca_cons ce_int ca_nil))) (ce_callT cs_int rfl Fx.z_int bt_int (ca_cons (ce_cmp os_gt (ce_var 2) ce_int (nomark _)) ca_nil) (fun hc ha => pe_callTy hc rfl Fx.z_int bt_int ha))) ca_nil)) (fun hx ha => pe_callS T.G9 G.room rfl Fx.m9 Fx.F9.kp Fx.b9 hx ha)))
    (css_cons (cs_if (CW.ct (cw_or (ct_cmp (os_eq G) (ce_var 3) ce_int (nomark _)) (cw_or1 (CW.ct (cw_and (ct_cmp (os_eq G) (ce_callB cs_len rfl Fx.z_len bt_len (ca_cons (ce_var 1) ca_nil) (fun hc ha => pe_callB hc rfl Fx.z_len bt_len ha)) ce_int (nomark _)) (cw_and1 (ct_cmp os_lt (ce_var 3) ce_int (nomark _)))))))) (css_one (cs_ret (ce_tup (ca_cons ce_str (ca_cons (ce_def G (Nat.le_refl _) T.G9 (ca_cons (ce_var 0) (ca_cons ce_int ca_nil)) (fun hx ha => pe_callS T.G9 G.room rfl Fx.m9 Fx.F9.kp Fx.b9 hx ha)) ca_nil))))) css_nil)
    (css_cons (cs_if (ct_cmp os_lt (ce_var 3) ce_int (nomark _)) (css_one (cs_ret (ce_tup (ca_cons ce_str (ca_cons (ce_sub G (ce_var 1) (ce_def G (Nat.le_refl _) T.G9 (ca_cons (ce_var 0) (ca_cons (ce_callB cs_len rfl Fx.z_len bt_len (ca_cons (ce_var 1) ca_nil) (fun hc ha => pe_callB hc rfl Fx.z_len bt_len ha)) ca_nil)) (fun hx ha => pe_callS T.G9 G.room rfl Fx.m9 Fx.F9.kp Fx.b9 hx ha))) ca_nil))))) css_nil)
    (css_cons (cs_if (CW.ct (cw_and (ct_cmp (os_eq G) (ce_var 3) ce_int (nomark _)) (cw_and1 (ct_cmp (os_eq G) (ce_def G (Nat.le_refl _) T.G9 (ca_cons (ce_var 0) (ca_cons ce_int ca_nil)) (fun hx ha => pe_callS T.G9 G.room rfl Fx.m9 Fx.F9.kp Fx.b9 hx ha)) ce_int (nomark _))))) (css_one (cs_ret (ce_sub G (ce_lst (ca_cons (ce_tup (ca_cons ce_str ca_nil)) (ca_cons (ce_tup (ca_cons ce_str ca_nil)) ca_nil))) (ce_def G (Nat.le_refl _) T.G9 (ca_cons (ce_var 0) (ca_cons ce_int ca_nil)) (fun hx ha => pe_callS T.G9 G.room rfl Fx.m9 Fx.F9.kp Fx.b9 hx ha))))) css_nil)
    (css_cons (cs_set (i := 4) sc__law_exp.nd rfl (Or.inl rfl) (ce_def G (Nat.le_refl _) T.G10 (ca_cons (ce_var 0) (ca_cons (ce_var 1) (ca_cons (ce_op os_sub (ce_var 2) ce_int) ca_nil))) (fun hx ha => pe_callS T.G10 G.room rfl Fx.m10 Fx.F10.kp Fx.b10 hx ha)))
    (css_cons (cs_if (ct_cmp (os_eq G) (ce_var 3) ce_int (nomark _)) (css_cons (cs_set (i := 5) sc__law_exp.nd rfl (Or.inl rfl) (ce_def G (Nat.le_refl _) T.G10 (ca_cons (ce_var 0) (ca_cons (ce_var 1) (ca_cons (ce_op os_sub (ce_var 2) ce_int) ca_nil))) (fun hx ha => pe_callS T.G10 G.room rfl Fx.m10 Fx.F10.kp Fx.b10 hx ha)))
    (css_one (cs_ret (ce_tup (ca_cons ce_str (ca_cons (ce_var 4) (ca_cons (ce_var 5) (ca_cons (ce_def G (Nat.le_refl _) T.G10 (ca_cons (ce_var 0) (ca_cons (ce_var 1) (ca_cons (ce_op os_sub (ce_var 2) ce_int) ca_nil))) (fun hx ha => pe_callS T.G10 G.room rfl Fx.m10 Fx.F10.kp Fx.b10 hx ha)) ca_nil)))))))) css_nil)
    (css_cons (cs_if (ct_cmp (os_eq G) (ce_var 3) ce_int (nomark _)) (css_one (cs_ret (ce_tup (ca_cons ce_str (ca_cons (ce_def G (Nat.le_refl _) T.G11 (ca_cons (ce_var 0) (ca_cons (ce_var 1) (ca_cons (ce_op os_sub (ce_var 2) ce_int) ca_nil))) (fun hx ha => pe_callS T.G11 G.room rfl Fx.m11 Fx.F11.kp Fx.b11 hx ha)) (ca_cons (ce_var 4) ca_nil)))))) css_nil)
    (css_cons (cs_if (ct_cmp (os_eq G) (ce_var 3) ce_int (nomark _)) (css_one (cs_ret (ce_tup (ca_cons ce_str (ca_cons ce_str (ca_cons (ce_var 4) (ca_cons (ce_def G (Nat.le_refl _) T.G10 (ca_cons (ce_var 0) (ca_cons (ce_op os_add (ce_var 1) (ce_lst (ca_cons ce_str ca_nil))) (ca_cons (ce_op os_sub (ce_var 2) ce_int) ca_nil))) (fun hx ha => pe_callS T.G10 G.room rfl Fx.m10 Fx.F10.kp Fx.b10 hx ha)) ca_nil))))))) css_nil)
    (css_cons (cs_set (i := 6) sc__law_exp.nd rfl (Or.inl rfl) (ce_sub G (ce_lst (ca_cons ce_str (ca_cons ce_str (ca_cons ce_str (ca_cons ce_str (ca_cons ce_str ca_nil)))))) (ce_def G (Nat.le_refl _) T.G9 (ca_cons (ce_var 0) (ca_cons ce_int ca_nil)) (fun hx ha => pe_callS T.G9 G.room rfl Fx.m9 Fx.F9.kp Fx.b9 hx ha))))
    (css_one (cs_ret (ce_tup (ca_cons (ce_var 6) (ca_cons (ce_var 4) (ca_cons (ce_def G (Nat.le_refl _) T.G10 (ca_cons (ce_var 0) (ca_cons (ce_var 1) (ca_cons (ce_op os_sub (ce_var 2) ce_int) ca_nil))) (fun hx ha => pe_callS T.G10 G.room rfl Fx.m10 Fx.F10.kp Fx.b10 hx ha)) ca_nil))))))))))))))))
end
end Lw
namespace Lw
open PySem PySem.Spec PyProof.Rows L2 RZ Dg
section
variable {P : Program} {w : World} {K : PySem.W.Frag} {mg : Str → Option Value} {base : Heap} {ad : Nat → Addr} {fd : Nat → FuncData} {k : Nat} {C : Calls}
theorem ok__law_com (Fx : Facts K mg w ad fd) (T : Tab P w K mg base ad fd (k + 40) C) : FnOk P w K mg base (L2.CX P w) (k + 41) (ad 11) (fd 11) ["state", "names", "depth"] (spF K mg 3 (runDef 7 (b__law_com C))) :=
  defD_ok (N := N__law_com) (ps := ["state", "names", "depth"]) Fx.F11 sc__law_com (fun cdv A outer s H E G =>
    (css_cons (cs_set (i := 3) sc__law_com.nd rfl (Or.inl rfl) (ce_def G (Nat.le_refl _) T.G9 (ca_cons (ce_var 0) (ca_cons (ce_sub G (ce_lst (ca_cons ce_int (ca_cons ce_int ca_nil))) (ce_callT cs_int rfl Fx.z_int bt_int (ca_cons (ce_cmp os_gt (ce_var 2) ce_int (nomark _)) ca_nil) (fun hc ha => pe_callTy hc rfl Fx.z_int bt_int ha))) ca_nil)) (fun hx ha => pe_callS T.G9 G.room rfl Fx.m9 Fx.F9.kp Fx.b9 hx ha)))
    (css_cons (cs_if (CW.ct (cw_or (ct_cmp (os_eq G) (ce_var 3) ce_int (nomark _)) (cw_or1 (CW.ct (cw_and (ct_cmp (os_eq G) (ce_callB cs_len rfl Fx.z_len bt_len (ca_cons (ce_var 1) ca_nil) (fun hc ha => pe_callB hc rfl Fx.z_len bt_len ha)) ce_int (nomark _)) (cw_and1 (ct_cmp os_lt (ce_var 3) ce_int (nomark _)))))))) (css_one (cs_ret (ce_sub G (ce_lst (ca_cons (ce_tup (ca_cons ce_str ca_nil)) (ca_cons (ce_tup (ca_cons ce_str ca_nil)) (ca_cons (ce_tup (ca_cons ce_str ca_nil)) (ca_cons (ce_tup (ca_cons ce_str ca_nil)) (ca_cons (ce_tup (ca_cons ce_str ca_nil)) ca_nil)))))) (ce_op os_mul (ce_def G (Nat.le_refl _) T.G9 (ca_cons (ce_var 0) (ca_cons ce_int ca_nil)) (fun hx ha => pe_callS T.G9 G.room rfl Fx.m9 Fx.F9.kp Fx.b9 hx ha)) (ce_callT cs_int rfl Fx.z_int bt_int (ca_cons (ce_cmp os_gt (ce_var 2) ce_int (nomark _)) ca_nil) (fun hc ha => pe_callTy hc rfl Fx.z_int bt_int ha)))))) css_nil)
    (css_cons (cs_if (CW.ct (cw_or (ct_cmp os_lt (ce_var 3) ce_int (nomark _)) (cw_or1 (ct_cmp os_le (ce_var 2) ce_int (nomark _))))) (css_one (cs_ret (ce_tup (ca_cons ce_str (ca_cons (ce_sub G (ce_var 1) (ce_def G (Nat.le_refl _) T.G9 (ca_cons (ce_var 0) (ca_cons (ce_callB cs_len rfl Fx.z_len bt_len (ca_cons (ce_var 1) ca_nil) (fun hc ha => pe_callB hc rfl Fx.z_len bt_len ha)) ca_nil)) (fun hx ha => pe_callS T.G9 G.room rfl Fx.m9 Fx.F9.kp Fx.b9 hx ha))) (ca_cons (ce_def G (Nat.le_refl _) T.G10 (ca_cons (ce_var 0) (ca_cons (ce_var 1) (ca_cons (ce_op os_sub (ce_var 2) ce_int) ca_nil))) (fun hx ha => pe_callS T.G10 G.room rfl Fx.m10 Fx.F10.kp Fx.b10 hx ha)) ca_nil)))))) css_nil)
    (css_cons (cs_if (ct_cmp os_lt (ce_var 3) ce_int (nomark _)) (css_cons (cs_set (i := 4) sc__law_com.nd rfl (Or.inl rfl) (ce_def G (Nat.le_refl _) T.G11 (ca_cons (ce_var 0) (ca_cons (ce_var 1) (ca_cons (ce_op os_sub (ce_var 2) ce_int) ca_nil))) (fun hx ha => pe_callS T.G11 G.room rfl Fx.m11 Fx.F11.kp Fx.b11 hx ha)))
    (css_cons (cs_set (i := 5) sc__law_com.nd rfl (Or.inl rfl) (ce_def G (Nat.le_refl _) T.G11 (ca_cons (ce_var 0) (ca_cons (ce_var 1) (ca_cons (ce_op os_sub (ce_var 2) ce_int) ca_nil))) (fun hx ha => pe_callS T.G11 G.room rfl Fx.m11 Fx.F11.kp Fx.b11 hx ha)))
    (css_cons (cs_if (ct_cmp (os_eq G) (ce_sub G (ce_var 5) ce_int) ce_str (nomark _)) (css_one (cs_ret (ce_tup (ca_cons ce_str (ca_cons (ce_tup (ca_cons ce_str (ca_cons ce_str (ca_cons (ce_var 4) ca_nil)))) (ca_cons (ce_tup (ca_cons ce_str (ca_cons ce_str (ca_cons (ce_var 5) ca_nil)))) ca_nil)))))) css_nil)
    (css_one (cs_ret (ce_tup (ca_cons ce_str (ca_cons (ce_var 4) (ca_cons (ce_var 5) ca_nil))))))))) css_nil)
    (css_cons (cs_set (i := 6) sc__law_com.nd rfl (Or.inl rfl) (ce_def G (Nat.le_refl _) T.G10 (ca_cons (ce_var 0) (ca_cons (ce_var 1) (ca_cons (ce_op os_sub (ce_var 2) ce_int) ca_nil))) (fun hx ha => pe_callS T.G10 G.room rfl Fx.m10 Fx.F10.kp Fx.b10 hx ha)))
    (css_cons (cs_if (ct_cmp (os_eq G) (ce_var 3) ce_int (nomark _)) (css_one (cs_ret (ce_tup (ca_cons ce_str (ca_cons (ce_var 6) (ca_cons (ce_def G (Nat.le_refl _) T.G11 (ca_cons (ce_var 0) (ca_cons (ce_var 1) (ca_cons (ce_op os_sub (ce_var 2) ce_int) ca_nil))) (fun hx ha => pe_callS T.G11 G.room rfl Fx.m11 Fx.F11.kp Fx.b11 hx ha)) ca_nil)))))) css_nil)
    (css_cons (cs_if (ct_cmp (os_eq G) (ce_var 3) ce_int (nomark _)) (css_one (cs_ret (ce_tup (ca_cons ce_str (ca_cons ce_str (ca_cons (ce_var 6) (ca_cons (ce_def G (Nat.le_refl _) T.G11 (ca_cons (ce_var 0) (ca_cons (ce_op os_add (ce_var 1) (ce_lst (ca_cons ce_str ca_nil))) (ca_cons (ce_op os_sub (ce_var 2) ce_int) ca_nil))) (fun hx ha => pe_callS T.G11 G.room rfl Fx.m11 Fx.F11.kp Fx.b11 hx ha)) ca_nil))))))) css_nil)
    (css_cons (cs_set (i := 4) sc__law_com.nd rfl (Or.inl rfl) (ce_def G (Nat.le_refl _) T.G11 (ca_cons (ce_var 0) (ca_cons (ce_var 1) (ca_cons (ce_op os_sub (ce_var 2) ce_int) ca_nil))) (fun hx ha => pe_callS T.G11 G.room rfl Fx.m11 Fx.F11.kp Fx.b11 hx ha)))
    (css_one (cs_ret (ce_tup (ca_cons ce_str (ca_cons (ce_var 6) (ca_cons (ce_var 4) (ca_cons (ce_def G (Nat.le_refl _) T.G11 (ca_cons (ce_var 0) (ca_cons (ce_var 1) (ca_cons (ce_op os_sub (ce_var 2) ce_int) ca_nil))) (fun hx ha => pe_callS T.G11 G.room rfl Fx.m11 Fx.F11.kp Fx.b11 hx ha)) ca_nil))))))))))))))))
end
end Lw
namespace Lw
open PySem PySem.Spec PyProof.Rows L2 RZ Dg
section
variable {P : Program} {w : World} {K : PySem.W.Frag} {mg : Str → Option Value} {base : Heap} {ad : Nat → Addr} {fd : Nat → FuncData} {k : Nat} {C : Calls}
theorem ok__law_module (Fx : Facts K mg w ad fd) (T : Tab P w K mg base ad fd (k + 40) C) : FnOk P w K mg base (L2.CX P w) (k + 41) (ad 12) (fd 12) ["state", "depth"] (spF K mg 2 (runDef 10 (b__law_module C))) :=
  defD_ok (N := N__law_module) (ps := ["state", "depth"]) Fx.F12 sc__law_module (fun cdv A outer s H E G =>
    (css_cons (cs_set (i := 2) sc__law_module.nd rfl (Or.inl rfl) (ce_op os_add (ce_def G (Nat.le_refl _) T.G9 (ca_cons (ce_var 0) (ca_cons ce_int ca_nil)) (fun hx ha => pe_callS T.G9 G.room rfl Fx.m9 Fx.F9.kp Fx.b9 hx ha)) (ce_callT cs_int rfl Fx.z_int bt_int (ca_cons (ce_cmp (os_eq G) (ce_def G (Nat.le_refl _) T.G9 (ca_cons (ce_var 0) (ca_cons ce_int ca_nil)) (fun hx ha => pe_callS T.G9 G.room rfl Fx.m9 Fx.F9.kp Fx.b9 hx ha)) ce_int (nomark _)) ca_nil) (fun hc ha => pe_callTy hc rfl Fx.z_int bt_int ha))))
    (css_cons (cs_set (i := 3) sc__law_module.nd rfl (Or.inl rfl) (ce_slice (ce_sub G (ce_lst (ca_cons (ce_lst (ca_cons ce_str (ca_cons ce_str (ca_cons ce_str ca_nil)))) (ca_cons (ce_lst (ca_cons ce_str (ca_cons ce_str (ca_cons ce_str ca_nil)))) (ca_cons (ce_lst (ca_cons ce_str (ca_cons ce_str (ca_cons ce_str ca_nil)))) ca_nil)))) (ce_def G (Nat.le_refl _) T.G9 (ca_cons (ce_var 0) (ca_cons ce_int ca_nil)) (fun hx ha => pe_callS T.G9 G.room rfl Fx.m9 Fx.F9.kp Fx.b9 hx ha))) co_none (co_some (ce_var 2))))
    (css_cons (cs_set (i := 4) sc__law_module.nd rfl (Or.inl rfl) (ce_callT cs_tuple rfl Fx.z_tuple bt_tuple (ca_cons (ce_lc (own := [("name", 9)]) G sc__law_module.nd (blkOk_by (own := [("name", 9)]) (N := N__law_module) (sc := defScope s__law_module) (by decide +kernel)) (ci_seq (ce_var 3)) (fun s0 H0 C0 cl fp => (cg_one (i := 9) sc__law_module.nd rfl (Or.inl rfl))) (fun s0 H0 C0 cl fp => cts_nil) (fun s0 H0 C0 cl fp => have G := Good.blk (s := s0) (H := H0) (fp := fp) G; (ce_tup (ca_cons (ce_var 9) (ca_cons (ce_def G (Nat.le_refl _) T.G9 (ca_cons (ce_var 0) (ca_cons ce_int ca_nil)) (fun hx ha => pe_callS T.G9 G.room rfl Fx.m9 Fx.F9.kp Fx.b9 hx ha)) ca_nil)))) rfl) ca_nil) (fun hc ha => pe_callTy hc rfl Fx.z_tuple bt_tuple ha)))
    (css_cons (cs_set (i := 5) sc__law_module.nd rfl (Or.inl rfl) (ce_lst ca_nil))
    (css_cons (cs_for G (ci_rg1 rfl Fx.z_range (ce_op os_add ce_int (ce_def G (Nat.le_refl _) T.G9 (ca_cons (ce_var 0) (ca_cons ce_int ca_nil)) (fun hx ha => pe_callS T.G9 G.room rfl Fx.m9 Fx.F9.kp Fx.b9 hx ha)))) (cg_one (i := 6) sc__law_module.nd rfl (Or.inl rfl)) (css_cons (cs_set (i := 7) sc__law_module.nd rfl (Or.inl rfl) (ce_sub G (ce_lst (ca_cons ce_str (ca_cons ce_str ca_nil))) (ce_def G (Nat.le_refl _) T.G9 (ca_cons (ce_var 0) (ca_cons ce_int ca_nil)) (fun hx ha => pe_callS T.G9 G.room rfl Fx.m9 Fx.F9.kp Fx.b9 hx ha))))
    (css_cons (cs_set (i := 8) sc__law_module.nd rfl (Or.inl rfl) (ce_tup (ca_cons ce_str ca_nil)))
    (css_cons (cs_if (ct_cmp (os_eq G) (ce_var 7) ce_str (nomark _)) (css_one (cs_set (i := 8) sc__law_module.nd rfl (Or.inl rfl) (ce_def G (Nat.le_refl _) T.G11 (ca_cons (ce_var 0) (ca_cons (ce_var 3) (ca_cons (ce_var 1) ca_nil))) (fun hx ha => pe_callS T.G11 G.room rfl Fx.m11 Fx.F11.kp Fx.b11 hx ha)))) (css_one (cs_set (i := 8) sc__law_module.nd rfl (Or.inl rfl) (ce_def G (Nat.le_refl _) T.G10 (ca_cons (ce_var 0) (ca_cons (ce_var 3) (ca_cons (ce_var 1) ca_nil))) (fun hx ha => pe_callS T.G10 G.room rfl Fx.m10 Fx.F10.kp Fx.b10 hx ha)))))
    (css_one (cs_expr (ce_mtL gs_append (ce_var 5) (ca_cons (ce_tup (ca_cons (ce_sub G (ce_lst (ca_cons ce_str (ca_cons ce_str ca_nil))) (ce_var 6)) (ca_cons (ce_var 7) (ca_cons (ce_var 8) ca_nil)))) ca_nil) (fun hm ho ha => pe_bm PySem.F.plainAttrs_list PySem.F.slot_list_append PySem.F.type_list_append hm ho ha))))))))
    (css_one (cs_ret (ce_tup (ca_cons (ce_var 4) (ca_cons (ce_callT cs_tuple rfl Fx.z_tuple bt_tuple (ca_cons (ce_var 5) ca_nil) (fun hc ha => pe_callTy hc rfl Fx.z_tuple bt_tuple ha)) ca_nil)))))))))))
end
end Lw
namespace Lw
open PySem PySem.Spec PyProof.Rows L2 RZ Dg
section
variable {P : Program} {w : World} {K : PySem.W.Frag} {mg : Str → Option Value} {base : Heap} {ad : Nat → Addr} {fd : Nat → FuncData} {k : Nat} {C : Calls}
theorem ok__law_linked (Fx : Facts K mg w ad fd) (T : Tab P w K mg base ad fd (k + 40) C) : FnOk P w K mg base (L2.CX P w) (k + 41) (ad 13) (fd 13) ["module", "client"] (spF K mg 2 (runDef 5 (b__law_linked C))) :=
  defD_ok (N := N__law_linked) (ps := ["module", "client"]) Fx.F13 sc__law_linked (fun cdv A outer s H E G =>
    (css_cons (cs_set (i := 2) sc__law_linked.nd rfl (Or.inl rfl) (ce_sub G (ce_var 1) ce_int))
    (css_cons (cs_for G (ci_rg1 rfl Fx.z_range (ce_callB cs_len rfl Fx.z_len bt_len (ca_cons (ce_sub G (ce_var 0) ce_int) ca_nil) (fun hc ha => pe_callB hc rfl Fx.z_len bt_len ha))) (cg_one (i := 3) sc__law_linked.nd rfl (Or.inl rfl)) (css_cons (cs_set (i := 4) sc__law_linked.nd rfl (Or.inl rfl) (ce_sub G (ce_sub G (ce_var 0) ce_int) (ce_op os_sub (ce_op os_sub (ce_callB cs_len rfl Fx.z_len bt_len (ca_cons (ce_sub G (ce_var 0) ce_int) ca_nil) (fun hc ha => pe_callB hc rfl Fx.z_len bt_len ha)) ce_int) (ce_var 3))))
    (css_one (cs_set (i := 2) sc__law_linked.nd rfl (Or.inl rfl) (ce_tup (ca_cons ce_str (ca_cons (ce_sub G (ce_var 4) ce_int) (ca_cons (ce_tup ca_nil) (ca_cons (ce_sub G (ce_var 4) ce_int) (ca_cons (ce_sub G (ce_var 4) ce_int) (ca_cons (ce_var 2) ca_nil)))))))))))
    (css_cons (cs_for G (ci_rg1 rfl Fx.z_range (ce_callB cs_len rfl Fx.z_len bt_len (ca_cons (ce_sub G (ce_var 0) ce_int) ca_nil) (fun hc ha => pe_callB hc rfl Fx.z_len bt_len ha))) (cg_one (i := 3) sc__law_linked.nd rfl (Or.inl rfl)) (css_cons (cs_set (i := 4) sc__law_linked.nd rfl (Or.inl rfl) (ce_sub G (ce_sub G (ce_var 0) ce_int) (ce_op os_sub (ce_op os_sub (ce_callB cs_len rfl Fx.z_len bt_len (ca_cons (ce_sub G (ce_var 0) ce_int) ca_nil) (fun hc ha => pe_callB hc rfl Fx.z_len bt_len ha)) ce_int) (ce_var 3))))
    (css_one (cs_set (i := 2) sc__law_linked.nd rfl (Or.inl rfl) (ce_tup (ca_cons ce_str (ca_cons (ce_sub G (ce_var 4) ce_int) (ca_cons (ce_tup (ca_cons ce_str (ca_cons (ce_sub G (ce_var 4) ce_int) ca_nil))) (ca_cons (ce_var 2) ca_nil)))))))))
    (css_one (cs_ret (ce_tup (ca_cons (ce_tup ca_nil) (ca_cons ce_str (ca_cons (ce_var 2) ca_nil))))))))))
end
end Lw
namespace Lw
open PySem PySem.Spec PyProof.Rows L2 RZ Dg
section
variable {P : Program} {w : World} {K : PySem.W.Frag} {mg : Str → Option Value} {base : Heap} {ad : Nat → Addr} {fd : Nat → FuncData} {k : Nat} {C : Calls}
theorem ok__law_told (Fx : Facts K mg w ad fd) (T : Tab P w K mg base ad fd (k + 40) C) : FnOk P w K mg base (L2.CX P w) (k + 41) (ad 14) (fd 14) ["module", "client"] (spF K mg 2 (runDef 4 (b__law_told C))) :=
  defD_ok (N := N__law_told) (ps := ["module", "client"]) Fx.F14 sc__law_told (fun cdv A outer s H E G =>
    (css_cons (cs_tryM G sc__law_told.nd
    (fun W1 pn xe G => (css_one (cs_set (i := 2) sc__law_told.nd rfl (Or.inl rfl) (ce_def G (Nat.le_refl _) T.G6 (ca_cons (ce_var 0) (ca_cons (ce_var 1) ca_nil)) (fun hx ha => pe_callS T.G6 G.room rfl Fx.m6 Fx.F6.kp Fx.b6 hx ha)))))
    (mk_named (i := 3) rfl rfl Fx.x_BadName rfl (exm_cons Fx.xm_DoppelError_BadName (exm_cons Fx.xm_NotAllowed_BadName (exm_cons Fx.xm_BadName_BadName (exm_cons Fx.xm_BadKind_BadName (exm_cons Fx.xm_TooLarge_BadName (fun q hq => nomatch hq))))))
    (fun c C a oe pn hcm hc hz hf => (ssat_one (sat_ret (at_sub (at_of (ce_lst (ca_cons ce_str (ca_cons ce_str ca_nil)))) (at_callT cs_int (at_or (at_not (at_isX (isx_cons Fx.is_DoppelError_DoppelError (isx_cons Fx.is_NotAllowed_DoppelError (isx_cons Fx.is_BadName_DoppelError (isx_cons Fx.is_BadKind_DoppelError (isx_cons Fx.is_TooLarge_DoppelError (fun q hq => nomatch hq)))))) hc hz hf rfl (Or.inl rfl) rfl rfl Fx.z_isinstance)) (at_one (at_isXT (ys := ["BadKind", "NotAllowed"]) (ps := [_, _]) (isxT_tab (isxT_cons Fx.is_DoppelError_BadKind (isxT_one Fx.is_DoppelError_NotAllowed)) (isxT_tab (isxT_cons Fx.is_NotAllowed_BadKind (isxT_one Fx.is_NotAllowed_NotAllowed)) (isxT_tab (isxT_cons Fx.is_BadName_BadKind (isxT_one Fx.is_BadName_NotAllowed)) (isxT_tab (isxT_cons Fx.is_BadKind_BadKind (isxT_one Fx.is_BadKind_NotAllowed)) (isxT_tab (isxT_cons Fx.is_TooLarge_BadKind (isxT_one Fx.is_TooLarge_NotAllowed)) isxT_tab0))))) hc hz hf rfl (Or.inl rfl) rfl (fa_cons rfl (fa_cons rfl fa_nil)) (fa_cons (by decide) (fa_cons (by decide) fa_nil)) rfl Fx.z_isinstance (by decide) (hse := fun _ _ _ => rfl)))) (fun hc ha => pe_callTy hc rfl Fx.z_int bt_int ha)))))) (mk_named (i := 3) rfl rfl Fx.x_BadKind rfl (exm_cons Fx.xm_DoppelError_BadKind (exm_cons Fx.xm_NotAllowed_BadKind (exm_cons Fx.xm_BadName_BadKind (exm_cons Fx.xm_BadKind_BadKind (exm_cons Fx.xm_TooLarge_BadKind (fun q hq => nomatch hq))))))
    (fun c C a oe pn hcm hc hz hf => (ssat_one (sat_ret (at_sub (at_of (ce_lst (ca_cons ce_str (ca_cons ce_str ca_nil)))) (at_callT cs_int (at_or (at_not (at_isX (isx_cons Fx.is_DoppelError_DoppelError (isx_cons Fx.is_NotAllowed_DoppelError (isx_cons Fx.is_BadName_DoppelError (isx_cons Fx.is_BadKind_DoppelError (isx_cons Fx.is_TooLarge_DoppelError (fun q hq => nomatch hq)))))) hc hz hf rfl (Or.inl rfl) rfl rfl Fx.z_isinstance)) (at_one (at_isXT (ys := ["BadName", "TooLarge"]) (ps := [_, _]) (isxT_tab (isxT_cons Fx.is_DoppelError_BadName (isxT_one Fx.is_DoppelError_TooLarge)) (isxT_tab (isxT_cons Fx.is_NotAllowed_BadName (isxT_one Fx.is_NotAllowed_TooLarge)) (isxT_tab (isxT_cons Fx.is_BadName_BadName (isxT_one Fx.is_BadName_TooLarge)) (isxT_tab (isxT_cons Fx.is_BadKind_BadName (isxT_one Fx.is_BadKind_TooLarge)) (isxT_tab (isxT_cons Fx.is_TooLarge_BadName (isxT_one Fx.is_TooLarge_TooLarge)) isxT_tab0))))) hc hz hf rfl (Or.inl rfl) rfl (fa_cons rfl (fa_cons rfl fa_nil)) (fa_cons (by decide) (fa_cons (by decide) fa_nil)) rfl Fx.z_isinstance (by decide) (hse := fun _ _ _ => rfl)))) (fun hc ha => pe_callTy hc rfl Fx.z_int bt_int ha)))))) (mk_bare Fx.x_TooLarge rfl (exm_cons Fx.xm_DoppelError_TooLarge (exm_cons Fx.xm_NotAllowed_TooLarge (exm_cons Fx.xm_BadName_TooLarge (exm_cons Fx.xm_BadKind_TooLarge (exm_cons Fx.xm_TooLarge_TooLarge (fun q hq => nomatch hq))))))
    (fun a oe cls d pn hz hf => (css_one (cs_ret ce_str))) mk_nil))))
    (css_one (cs_ret (ce_sub G (ce_lst (ca_cons ce_str (ca_cons ce_str ca_nil))) (ce_callT cs_int rfl Fx.z_int bt_int (ca_cons (ce_cmp (os_eq G) (ce_var 2) (ce_def G (Nat.le_refl _) T.G13 (ca_cons (ce_var 0) (ca_cons (ce_var 1) ca_nil)) (fun hx ha => pe_callS T.G13 G.room rfl Fx.m13 Fx.F13.kp Fx.b13 hx ha)) (nomark _)) ca_nil) (fun hc ha => pe_callTy hc rfl Fx.z_int bt_int ha)))))))
end
end Lw
namespace Lw
open PySem PySem.Spec PyProof.Rows L2 RZ Dg
section
variable {P : Program} {w : World} {K : PySem.W.Frag} {mg : Str → Option Value} {base : Heap} {ad : Nat → Addr} {fd : Nat → FuncData} {k : Nat} {C : Calls}
theorem ok__law_long (Fx : Facts K mg w ad fd) (T : Tab P w K mg base ad fd (k + 40) C) : FnOk P w K mg base (L2.CX P w) (k + 41) (ad 15) (fd 15) ["many"] (spF K mg 1 (runDef 3 (b__law_long C))) :=
  defD_ok (N := N__law_long) (ps := ["many"]) Fx.F15 sc__law_long (fun cdv A outer s H E G =>
    (css_cons (cs_set (i := 1) sc__law_long.nd rfl (Or.inl rfl) (ce_tup (ca_cons ce_str ca_nil)))
    (css_cons (cs_for G (ci_rg1 rfl Fx.z_range (ce_var 0)) (cg_one (i := 2) sc__law_long.nd rfl (Or.inl rfl)) (css_one (cs_set (i := 1) sc__law_long.nd rfl (Or.inl rfl) (ce_tup (ca_cons ce_str (ca_cons (ce_var 1) (ca_cons (ce_tup (ca_cons ce_str ca_nil)) ca_nil)))))))
    (css_one (cs_ret (ce_tup (ca_cons (ce_tup ca_nil) (ca_cons ce_str (ca_cons (ce_var 1) ca_nil)))))))))
end
end Lw
namespace Lw
open PySem PySem.Spec PyProof.Rows L2 RZ Dg
section
variable {P : Program} {w : World} {K : PySem.W.Frag} {mg : Str → Option Value} {base : Heap} {ad : Nat → Addr} {fd : Nat → FuncData} {k : Nat} {C : Calls}
theorem ok__law_deep (Fx : Facts K mg w ad fd) (T : Tab P w K mg base ad fd (k + 40) C) : FnOk P w K mg base (L2.CX P w) (k + 41) (ad 16) (fd 16) ["levels"] (spF K mg 1 (runDef 3 (b__law_deep C))) :=
  defD_ok (N := N__law_deep) (ps := ["levels"]) Fx.F16 sc__law_deep (fun cdv A outer s H E G =>
    (css_cons (cs_set (i := 1) sc__law_deep.nd rfl (Or.inl rfl) (ce_tup (ca_cons ce_str ca_nil)))
    (css_cons (cs_for G (ci_rg1 rfl Fx.z_range (ce_op os_sub (ce_var 0) ce_int)) (cg_one (i := 2) sc__law_deep.nd rfl (Or.inl rfl)) (css_one (cs_set (i := 1) sc__law_deep.nd rfl (Or.inl rfl) (ce_tup (ca_cons ce_str (ca_cons ce_str (ca_cons (ce_var 1) ca_nil)))))))
    (css_one (cs_ret (ce_tup (ca_cons (ce_tup ca_nil) (ca_cons ce_str (ca_cons (ce_var 1) ca_nil)))))))))
end
end Lw
namespace Lw
open PySem PySem.Spec PyProof.Rows L2 RZ Dg
section
variable {P : Program} {w : World} {K : PySem.W.Frag} {mg : Str → Option Value} {base : Heap} {ad : Nat → Addr} {fd : Nat → FuncData} {k : Nat} {C : Calls}
theorem ok_law (Fx : Facts K mg w ad fd) (T : Tab P w K mg base ad fd (k + 40) C) : FnOk P w K mg base (L2.CX P w) (k + 41) (ad 17) (fd 17) ["script"] (spF K mg 1 (runDef 12 (b_law C))) :=
  defD_ok (N := N_law) (ps := ["script"]) Fx.F17 sc_law (fun cdv A outer s H E G =>
    (css_cons (cs_set (i := 1) sc_law.nd rfl (Or.inl rfl) (ce_lst (ca_cons (ce_def G (Nat.le_refl _) T.G7 (ca_cons (ce_var 0) ca_nil) (fun hx ha => pe_callS T.G7 G.room rfl Fx.m7 Fx.F7.kp Fx.b7 hx ha)) (ca_cons ce_int ca_nil))))
    (css_cons (cs_set (i := 2) sc_law.nd rfl (Or.inl rfl) (ce_def G (Nat.le_refl _) T.G12 (ca_cons (ce_var 1) (ca_cons (ce_op os_add ce_int (ce_def G (Nat.le_refl _) T.G9 (ca_cons (ce_var 1) (ca_cons ce_int ca_nil)) (fun hx ha => pe_callS T.G9 G.room rfl Fx.m9 Fx.F9.kp Fx.b9 hx ha))) ca_nil)) (fun hx ha => pe_callS T.G12 G.room rfl Fx.m12 Fx.F12.kp Fx.b12 hx ha)))
    (css_cons (cs_asg (ce_sub G (ce_sub G (ce_var 2) ce_int) (ce_def G (Nat.le_refl _) T.G9 (ca_cons (ce_var 1) (ca_cons (ce_callB cs_len rfl Fx.z_len bt_len (ca_cons (ce_sub G (ce_var 2) ce_int) ca_nil) (fun hc ha => pe_callB hc rfl Fx.z_len bt_len ha)) ca_nil)) (fun hx ha => pe_callS T.G9 G.room rfl Fx.m9 Fx.F9.kp Fx.b9 hx ha))) (cg_tup G.calm (cgs_cons (cg_one (i := 3) sc_law.nd rfl (Or.inl rfl)) (cgs_cons (cg_one (i := 4) sc_law.nd rfl (Or.inl rfl)) (cgs_cons (cg_one (i := 5) sc_law.nd rfl (Or.inl rfl)) cgs_nil)))) (fun he hg => ps_asg he hg))
    (css_cons (cs_set (i := 6) sc_law.nd rfl (Or.inl rfl) (ce_sub G (ce_lst (ca_cons ce_str (ca_cons ce_str ca_nil))) (ce_callT cs_int rfl Fx.z_int bt_int (ca_cons (ce_cmp (os_eq G) (ce_var 4) ce_str (nomark _)) ca_nil) (fun hc ha => pe_callTy hc rfl Fx.z_int bt_int ha))))
    (css_cons (cs_set (i := 7) sc_law.nd rfl (Or.inl rfl) (ce_sub G (ce_lst (ca_cons (ce_tup (ca_cons ce_str (ca_cons (ce_var 3) (ca_cons (ce_tup ca_nil) ca_nil)))) (ca_cons (ce_tup (ca_cons ce_str (ca_cons (ce_tup (ca_cons ce_str (ca_cons (ce_var 3) (ca_cons (ce_tup ca_nil) ca_nil)))) (ca_cons (ce_tup (ca_cons ce_str ca_nil)) ca_nil)))) ca_nil))) (ce_callT cs_int rfl Fx.z_int bt_int (ca_cons (ce_cmp (os_eq G) (ce_var 4) ce_str (nomark _)) ca_nil) (fun hc ha => pe_callTy hc rfl Fx.z_int bt_int ha))))
    (css_cons (cs_set (i := 8) sc_law.nd rfl (Or.inl rfl) (ce_tup (ca_cons (ce_tup (ca_cons (ce_tup (ca_cons (ce_var 3) (ca_cons (ce_tup ca_nil) (ca_cons (ce_var 4) ca_nil)))) ca_nil)) (ca_cons ce_str (ca_cons (ce_tup (ca_cons ce_str (ca_cons ce_str (ca_cons (ce_tup (ca_cons ce_str (ca_cons ce_int ca_nil))) (ca_cons (ce_tup (ca_cons ce_str (ca_cons (ce_var 7) (ca_cons (ce_tup (ca_cons ce_str (ca_cons ce_str (ca_cons (ce_tup (ca_cons ce_str (ca_cons ce_int ca_nil))) ca_nil)))) ca_nil)))) ca_nil))))) ca_nil)))))
    (css_cons (cs_for G (ci_seq (ce_lst (ca_cons (ce_var 8) (ca_cons (ce_tup (ca_cons (ce_tup ca_nil) (ca_cons ce_str (ca_cons (ce_tup (ca_cons ce_str ca_nil)) ca_nil)))) (ca_cons (ce_tup (ca_cons (ce_tup (ca_cons (ce_tup (ca_cons (ce_var 3) (ca_cons (ce_tup ca_nil) (ca_cons (ce_var 4) ca_nil)))) ca_nil)) (ca_cons ce_str (ca_cons (ce_tup (ca_cons ce_str ca_nil)) ca_nil)))) (ca_cons (ce_def G (Nat.le_refl _) T.G15 (ca_cons (ce_def G (Nat.le_refl _) T.G9 (ca_cons (ce_var 1) (ca_cons ce_int ca_nil)) (fun hx ha => pe_callS T.G9 G.room rfl Fx.m9 Fx.F9.kp Fx.b9 hx ha)) ca_nil) (fun hx ha => pe_callS T.G15 G.room rfl Fx.m15 Fx.F15.kp Fx.b15 hx ha)) ca_nil)))))) (cg_one (i := 9) sc_law.nd rfl (Or.inl rfl)) (css_one (cs_if (ct_cmp (os_ne G) (ce_def G (Nat.le_refl _) T.G14 (ca_cons (ce_var 2) (ca_cons (ce_var 9) ca_nil)) (fun hx ha => pe_callS T.G14 G.room rfl Fx.m14 Fx.F14.kp Fx.b14 hx ha)) ce_str (nomark _)) (css_one (cs_ret ce_bl)) css_nil)))
    (css_cons (cs_if (ct_cmp (os_ne G) (ce_def G (Nat.le_refl _) T.G14 (ca_cons (ce_var 2) (ca_cons (ce_tup (ca_cons (ce_tup (ca_cons (ce_tup (ca_cons (ce_var 3) (ca_cons (ce_tup ca_nil) (ca_cons (ce_var 4) ca_nil)))) (ca_cons (ce_tup (ca_cons ce_str (ca_cons (ce_tup ca_nil) (ca_cons ce_str ca_nil)))) ca_nil))) (ca_cons ce_str (ca_cons (ce_tup (ca_cons ce_str ca_nil)) ca_nil)))) ca_nil)) (fun hx ha => pe_callS T.G14 G.room rfl Fx.m14 Fx.F14.kp Fx.b14 hx ha)) ce_str (nomark _)) (css_one (cs_ret ce_bl)) css_nil)
    (css_cons (cs_if (ct_cmp (os_ne G) (ce_def G (Nat.le_refl _) T.G14 (ca_cons (ce_var 2) (ca_cons (ce_tup (ca_cons (ce_tup (ca_cons (ce_tup (ca_cons (ce_var 3) (ca_cons (ce_tup ca_nil) (ca_cons (ce_var 6) ca_nil)))) (ca_cons (ce_tup (ca_cons ce_str (ca_cons (ce_tup ca_nil) (ca_cons ce_str ca_nil)))) ca_nil))) (ca_cons ce_str (ca_cons (ce_tup (ca_cons ce_str (ca_cons ce_int ca_nil))) ca_nil)))) ca_nil)) (fun hx ha => pe_callS T.G14 G.room rfl Fx.m14 Fx.F14.kp Fx.b14 hx ha)) ce_str (nomark _)) (css_one (cs_ret ce_bl)) css_nil)
    (css_cons (cs_for G (ci_seq (ce_lst (ca_cons (ce_tup (ca_cons (ce_tup (ca_cons (ce_tup (ca_cons (ce_var 3) (ca_cons (ce_tup ca_nil) (ca_cons (ce_var 6) ca_nil)))) ca_nil)) (ca_cons ce_str (ca_cons (ce_tup (ca_cons ce_str ca_nil)) ca_nil)))) (ca_cons (ce_tup (ca_cons (ce_tup (ca_cons (ce_tup (ca_cons (ce_var 3) (ca_cons (ce_tup (ca_cons ce_str ca_nil)) (ca_cons (ce_var 4) ca_nil)))) ca_nil)) (ca_cons ce_str (ca_cons (ce_tup (ca_cons ce_str ca_nil)) ca_nil)))) (ca_cons (ce_tup (ca_cons (ce_tup ca_nil) (ca_cons ce_str (ca_cons (ce_tup (ca_cons ce_str (ca_cons ce_int ca_nil))) ca_nil)))) ca_nil))))) (cg_one (i := 10) sc_law.nd rfl (Or.inl rfl)) (css_one (cs_if (ct_cmp (os_ne G) (ce_def G (Nat.le_refl _) T.G14 (ca_cons (ce_var 2) (ca_cons (ce_var 10) ca_nil)) (fun hx ha => pe_callS T.G14 G.room rfl Fx.m14 Fx.F14.kp Fx.b14 hx ha)) ce_str (nomark _)) (css_one (cs_ret ce_bl)) css_nil)))
    (css_cons (cs_set (i := 11) sc_law.nd rfl (Or.inl rfl) (ce_op os_add (ce_callB cs_len rfl Fx.z_len bt_len (ca_cons (ce_sub G (ce_var 2) ce_int) ca_nil) (fun hc ha => pe_callB hc rfl Fx.z_len bt_len ha)) (ce_callB cs_len rfl Fx.z_len bt_len (ca_cons (ce_sub G (ce_var 2) ce_int) ca_nil) (fun hc ha => pe_callB hc rfl Fx.z_len bt_len ha))))
    (css_cons (cs_if (CW.ct (cw_or (ct_cmp (os_ne G) (ce_def G (Nat.le_refl _) T.G14 (ca_cons (ce_var 2) (ca_cons (ce_def G (Nat.le_refl _) T.G15 (ca_cons ce_int ca_nil) (fun hx ha => pe_callS T.G15 G.room rfl Fx.m15 Fx.F15.kp Fx.b15 hx ha)) ca_nil)) (fun hx ha => pe_callS T.G14 G.room rfl Fx.m14 Fx.F14.kp Fx.b14 hx ha)) ce_str (nomark _)) (cw_or1 (ct_cmp (os_ne G) (ce_def G (Nat.le_refl _) T.G14 (ca_cons (ce_var 2) (ca_cons (ce_def G (Nat.le_refl _) T.G16 (ca_cons (ce_op os_sub ce_int (ce_var 11)) ca_nil) (fun hx ha => pe_callS T.G16 G.room rfl Fx.m16 Fx.F16.kp Fx.b16 hx ha)) ca_nil)) (fun hx ha => pe_callS T.G14 G.room rfl Fx.m14 Fx.F14.kp Fx.b14 hx ha)) ce_str (nomark _))))) (css_one (cs_ret ce_bl)) css_nil)
    (css_one (cs_ret (ce_cmp (os_eq G) (ce_def G (Nat.le_refl _) T.G14 (ca_cons (ce_var 2) (ca_cons (ce_def G (Nat.le_refl _) T.G16 (ca_cons (ce_op os_sub ce_int (ce_var 11)) ca_nil) (fun hx ha => pe_callS T.G16 G.room rfl Fx.m16 Fx.F16.kp Fx.b16 hx ha)) ca_nil)) (fun hx ha => pe_callS T.G14 G.room rfl Fx.m14 Fx.F14.kp Fx.b14 hx ha)) ce_str (nomark _)))))))))))))))))
end
end Lw
namespace Lw
open PySem PySem.Spec PyProof.Rows L2 RZ Dg
section
variable {P : Program} {w : World} {K : PySem.W.Frag} {mg : Str → Option Value} {base : Heap} {ad : Nat → Addr} {fd : Nat → FuncData} {k : Nat} {C : Calls}
theorem tab_0 (ad : Nat → Addr) (fd : Nat → FuncData) : Tab P w K mg base ad fd 40 (call 0) := ⟨fn_bad, fn_bad, fn_bad, fn_bad, fn_bad, fn_bad, fn_bad, fn_bad, fn_bad, fn_bad, fn_bad, fn_bad, fn_bad, fn_bad, fn_bad, fn_bad, fn_bad, fn_bad⟩
theorem tab_s (Fx : Facts K mg w ad fd) (T : Tab P w K mg base ad fd (k + 40) (call k)) : Tab P w K mg base ad fd (k + 41) (call (k + 1)) :=
  ⟨ok_kids Fx T, ok_levels_of_parts Fx T, ok_nodes Fx T, ok_is_too_large Fx T, ok_with_variables Fx T, ok_check_client Fx T, ok_link Fx T, ok__law_stream Fx T, ok__law_pick Fx T, ok__law_next Fx T, ok__law_exp Fx T, ok__law_com Fx T, ok__law_module Fx T, ok__law_linked Fx T, ok__law_told Fx T, ok__law_long Fx T, ok__law_deep Fx T, ok_law Fx T⟩
theorem tab (Fx : Facts K mg w ad fd) : ∀ k : Nat, Tab P w K mg base ad fd (k + 40) (call k)
  | 0 => tab_0 ad fd
  | k + 1 => by
    have h := tab_s Fx (tab Fx k)
    rw [show k + 1 + 40 = k + 41 by omega]
    exact h
end
end Lw
namespace Lw
open PySem PySem.Spec PyProof.Rows L2 RZ Dg
def d_kids : He.DefD := ⟨("kids", none), "kids", "kids", defArgs s_kids, defBody s_kids, defScope s_kids, [], []⟩
def d_levels_of_parts : He.DefD := ⟨("levels_of_parts", none), "levels_of_parts", "levels_of_parts", defArgs s_levels_of_parts, defBody s_levels_of_parts, defScope s_levels_of_parts, [], []⟩
def d_nodes : He.DefD := ⟨("nodes", none), "nodes", "nodes", defArgs s_nodes, defBody s_nodes, defScope s_nodes, [], []⟩
def d_is_too_large : He.DefD := ⟨("is_too_large", none), "is_too_large", "is_too_large", defArgs s_is_too_large, defBody s_is_too_large, defScope s_is_too_large, [], []⟩
def d_with_variables : He.DefD := ⟨("with_variables", none), "with_variables", "with_variables", defArgs s_with_variables, defBody s_with_variables, defScope s_with_variables, [], []⟩
def d_check_client : He.DefD := ⟨("check_client", none), "check_client", "check_client", defArgs s_check_client, defBody s_check_client, defScope s_check_client, [], []⟩
def d_link : He.DefD := ⟨("link", none), "link", "link", defArgs s_link, defBody s_link, defScope s_link, [], []⟩
def d__law_stream : He.DefD := ⟨("_law_stream", none), "_law_stream", "_law_stream", defArgs s__law_stream, defBody s__law_stream, defScope s__law_stream, [], []⟩
def d__law_pick : He.DefD := ⟨("_law_pick", none), "_law_pick", "_law_pick", defArgs s__law_pick, defBody s__law_pick, defScope s__law_pick, [], []⟩
def d__law_next : He.DefD := ⟨("_law_next", none), "_law_next", "_law_next", defArgs s__law_next, defBody s__law_next, defScope s__law_next, [], []⟩
def d__law_exp : He.DefD := ⟨("_law_exp", none), "_law_exp", "_law_exp", defArgs s__law_exp, defBody s__law_exp, defScope s__law_exp, [], []⟩
def d__law_com : He.DefD := ⟨("_law_com", none), "_law_com", "_law_com", defArgs s__law_com, defBody s__law_com, defScope s__law_com, [], []⟩
def d__law_module : He.DefD := ⟨("_law_module", none), "_law_module", "_law_module", defArgs s__law_module, defBody s__law_module, defScope s__law_module, [], []⟩
def d__law_linked : He.DefD := ⟨("_law_linked", none), "_law_linked", "_law_linked", defArgs s__law_linked, defBody s__law_linked, defScope s__law_linked, [], []⟩
def d__law_told : He.DefD := ⟨("_law_told", none), "_law_told", "_law_told", defArgs s__law_told, defBody s__law_told, defScope s__law_told, [], []⟩
def d__law_long : He.DefD := ⟨("_law_long", none), "_law_long", "_law_long", defArgs s__law_long, defBody s__law_long, defScope s__law_long, [], []⟩
def d__law_deep : He.DefD := ⟨("_law_deep", none), "_law_deep", "_law_deep", defArgs s__law_deep, defBody s__law_deep, defScope s__law_deep, [], []⟩
def d_law : He.DefD := ⟨("law", none), "law", "law", defArgs s_law, defBody s_law, defScope s_law, [], []⟩
def hfn : List He.DefD := [d_kids, d_levels_of_parts, d_nodes, d_is_too_large, d_with_variables, d_check_client, d_link, d__law_stream, d__law_pick, d__law_next, d__law_exp, d__law_com, d__law_module, d__law_linked, d__law_told, d__law_long, d__law_deep, d_law]
def hfa : List He.Fa := [.glo "kids", .glo "levels_of_parts", .glo "nodes", .glo "is_too_large", .glo "with_variables", .glo "check_client", .glo "link", .glo "_law_stream", .glo "_law_pick", .glo "_law_next", .glo "_law_exp", .glo "_law_com", .glo "_law_module", .glo "_law_linked", .glo "_law_told", .glo "_law_long", .glo "_law_deep", .glo "law", .glo "FORMS", .free "int", .free "isinstance", .free "len", .free "max", .free "range", .free "reversed", .free "tuple", .free "zip", .glo "BadKind", .glo "BadName", .glo "DoppelError", .glo "NotAllowed", .glo "TooLarge", .exc "BadKind", .exc "BadName", .exc "TooLarge", .exm "BadKind" "BadKind" true, .exm "BadKind" "BadName" false, .exm "BadKind" "TooLarge" false, .exm "BadName" "BadKind" false, .exm "BadName" "BadName" true, .exm "BadName" "TooLarge" false, .exm "DoppelError" "BadKind" false, .exm "DoppelError" "BadName" false, .exm "DoppelError" "TooLarge" false, .exm "NotAllowed" "BadKind" false, .exm "NotAllowed" "BadName" false, .exm "NotAllowed" "TooLarge" false, .exm "TooLarge" "BadKind" false, .exm "TooLarge" "BadName" false, .exm "TooLarge" "TooLarge" true]
def hts : List He.Tab := [(fun K => He.ga K "FORMS", ["skip", "seq", "set", "while", "block", "num", "read", "add", "sub", "mul", "equal", "less", "do", "stop", "fault", "exit", "if", "new", "call", "proc"])]
def hfu : List FaU := [.tab "FORMS" tab_FORMS, .con "KINDS" (.tup [(.str "com"), (.str "exp")]), .con "MAX_LEVEL" (.int 30), .con "MAX_NODES" (.int 400), .isx "BadKind" "BadKind" true, .isx "BadKind" "BadName" false, .isx "BadKind" "DoppelError" true, .isx "BadKind" "NotAllowed" false, .isx "BadKind" "TooLarge" false, .isx "BadName" "BadKind" false, .isx "BadName" "BadName" true, .isx "BadName" "DoppelError" true, .isx "BadName" "NotAllowed" false, .isx "BadName" "TooLarge" false, .isx "DoppelError" "BadKind" false, .isx "DoppelError" "BadName" false, .isx "DoppelError" "DoppelError" true, .isx "DoppelError" "NotAllowed" false, .isx "DoppelError" "TooLarge" false, .isx "NotAllowed" "BadKind" false, .isx "NotAllowed" "BadName" false, .isx "NotAllowed" "DoppelError" true, .isx "NotAllowed" "NotAllowed" true, .isx "NotAllowed" "TooLarge" false, .isx "TooLarge" "BadKind" false, .isx "TooLarge" "BadName" false, .isx "TooLarge" "DoppelError" true, .isx "TooLarge" "NotAllowed" false, .isx "TooLarge" "TooLarge" true]
abbrev R : PySem.W.OpenRow := PySem.W.OpenLaw.row PySem.Challenge.rw_doppelganger_k75_clients_refused
abbrev hk : PySem.W.Hook := hookU 5 hfa hfn hts hfu
def ob (s : PySem.W.SharedT) : AlU := obsUG 5 hfa hfn hts hfu (HandSHeadRun.getT s)
theorem ob_eq (s : PySem.W.SharedT) : ob s = hk.obs s.abs := obsUG_eq (HandSHeadRun.getT_eq s)
def hloose : List PySem.Str := (["DoppelError", "NotAllowed", "BadName", "BadKind", "TooLarge", "MAX_NODES", "MAX_LEVEL", "KINDS", "FORMS", "kids", "levels_of_parts", "nodes", "is_too_large", "with_variables", "check_client", "link"] : List PySem.Str) ++ (["_law_stream", "_law_pick", "_law_next", "_law_exp", "_law_com", "_law_module", "_law_linked", "_law_told", "_law_long", "_law_deep"] : List PySem.Str)
theorem run (w : World) : HandSHeadRun.RunEq R (PySem.W.view R.prog [31]) hk ob 4000 hloose w :=
  PySem.W.byRow2 "special-get-raises" (P := fun w => HandSHeadRun.RunEq R (PySem.W.view R.prog [31]) hk ob 4000 hloose w)
    (fun w => by
      intro os
      kernel_rfl) (fun w => by
      intro os
      kernel_rfl) w
def adOf (K : PySem.W.Frag) : Nat → Addr
  | 0 => He.ga K "kids"
  | 1 => He.ga K "levels_of_parts"
  | 2 => He.ga K "nodes"
  | 3 => He.ga K "is_too_large"
  | 4 => He.ga K "with_variables"
  | 5 => He.ga K "check_client"
  | 6 => He.ga K "link"
  | 7 => He.ga K "_law_stream"
  | 8 => He.ga K "_law_pick"
  | 9 => He.ga K "_law_next"
  | 10 => He.ga K "_law_exp"
  | 11 => He.ga K "_law_com"
  | 12 => He.ga K "_law_module"
  | 13 => He.ga K "_law_linked"
  | 14 => He.ga K "_law_told"
  | 15 => He.ga K "_law_long"
  | 16 => He.ga K "_law_deep"
  | 17 => He.ga K "law"
  | _ => 0
theorem facts {w : World} {K : PySem.W.Frag} {h : Heap} {mg : Str → Option Value} (X : K.In h) (G : h.Ns mainGlobals mg) (c : SaysU hfa hfn hts hfu w K) : ∃ fd : Nat → FuncData, Facts K mg w (adOf K) fd := by
  obtain ⟨f0, F0⟩ := c.t.d.def_ 0 (d := d_kids) rfl
  obtain ⟨f1, F1⟩ := c.t.d.def_ 1 (d := d_levels_of_parts) rfl
  obtain ⟨f2, F2⟩ := c.t.d.def_ 2 (d := d_nodes) rfl
  obtain ⟨f3, F3⟩ := c.t.d.def_ 3 (d := d_is_too_large) rfl
  obtain ⟨f4, F4⟩ := c.t.d.def_ 4 (d := d_with_variables) rfl
  obtain ⟨f5, F5⟩ := c.t.d.def_ 5 (d := d_check_client) rfl
  obtain ⟨f6, F6⟩ := c.t.d.def_ 6 (d := d_link) rfl
  obtain ⟨f7, F7⟩ := c.t.d.def_ 7 (d := d__law_stream) rfl
  obtain ⟨f8, F8⟩ := c.t.d.def_ 8 (d := d__law_pick) rfl
  obtain ⟨f9, F9⟩ := c.t.d.def_ 9 (d := d__law_next) rfl
  obtain ⟨f10, F10⟩ := c.t.d.def_ 10 (d := d__law_exp) rfl
  obtain ⟨f11, F11⟩ := c.t.d.def_ 11 (d := d__law_com) rfl
  obtain ⟨f12, F12⟩ := c.t.d.def_ 12 (d := d__law_module) rfl
  obtain ⟨f13, F13⟩ := c.t.d.def_ 13 (d := d__law_linked) rfl
  obtain ⟨f14, F14⟩ := c.t.d.def_ 14 (d := d__law_told) rfl
  obtain ⟨f15, F15⟩ := c.t.d.def_ 15 (d := d__law_long) rfl
  obtain ⟨f16, F16⟩ := c.t.d.def_ 16 (d := d__law_deep) rfl
  obtain ⟨f17, F17⟩ := c.t.d.def_ 17 (d := d_law) rfl
  obtain ⟨es0, n0, D0⟩ := c.t.tab 0 (t := (fun K => He.ga K "FORMS", ["skip", "seq", "set", "while", "block", "num", "read", "add", "sub", "mul", "equal", "less", "do", "stop", "fault", "exit", "if", "new", "call", "proc"])) rfl
  refine ⟨fun i => match i with
    | 0 => f0
    | 1 => f1
    | 2 => f2
    | 3 => f3
    | 4 => f4
    | 5 => f5
    | 6 => f6
    | 7 => f7
    | 8 => f8
    | 9 => f9
    | 10 => f10
    | 11 => f11
    | 12 => f12
    | 13 => f13
    | 14 => f14
    | 15 => f15
    | 16 => f16
    | 17 => f17
    | _ => f0, ?_⟩
  exact {
    F0 := F0
    b0 := FunD.bindsN F0 fun _ _ _ _ _ _ us hl => match us, hl with | [_, _], _ => rfl
    m0 := He.glo_ok X G (c.t.d.fact 0 (f := .glo "kids") rfl)
    F1 := F1
    b1 := FunD.bindsN F1 fun _ _ _ _ _ _ us hl => match us, hl with | [_, _, _], _ => rfl
    m1 := He.glo_ok X G (c.t.d.fact 1 (f := .glo "levels_of_parts") rfl)
    F2 := F2
    b2 := FunD.bindsN F2 fun _ _ _ _ _ _ us hl => match us, hl with | [_, _], _ => rfl
    m2 := He.glo_ok X G (c.t.d.fact 2 (f := .glo "nodes") rfl)
    F3 := F3
    b3 := FunD.bindsN F3 fun _ _ _ _ _ _ us hl => match us, hl with | [_, _], _ => rfl
    m3 := He.glo_ok X G (c.t.d.fact 3 (f := .glo "is_too_large") rfl)
    F4 := F4
    b4 := FunD.bindsN F4 fun _ _ _ _ _ _ us hl => match us, hl with | [_, _], _ => rfl
    m4 := He.glo_ok X G (c.t.d.fact 4 (f := .glo "with_variables") rfl)
    F5 := F5
    b5 := FunD.bindsN F5 fun _ _ _ _ _ _ us hl => match us, hl with | [_, _], _ => rfl
    m5 := He.glo_ok X G (c.t.d.fact 5 (f := .glo "check_client") rfl)
    F6 := F6
    b6 := FunD.bindsN F6 fun _ _ _ _ _ _ us hl => match us, hl with | [_, _], _ => rfl
    m6 := He.glo_ok X G (c.t.d.fact 6 (f := .glo "link") rfl)
    F7 := F7
    b7 := FunD.bindsN F7 fun _ _ _ _ _ _ us hl => match us, hl with | [_], _ => rfl
    m7 := He.glo_ok X G (c.t.d.fact 7 (f := .glo "_law_stream") rfl)
    F8 := F8
    b8 := FunD.bindsN F8 fun _ _ _ _ _ _ us hl => match us, hl with | [_, _, _], _ => rfl
    m8 := He.glo_ok X G (c.t.d.fact 8 (f := .glo "_law_pick") rfl)
    F9 := F9
    b9 := FunD.bindsN F9 fun _ _ _ _ _ _ us hl => match us, hl with | [_, _], _ => rfl
    m9 := He.glo_ok X G (c.t.d.fact 9 (f := .glo "_law_next") rfl)
    F10 := F10
    b10 := FunD.bindsN F10 fun _ _ _ _ _ _ us hl => match us, hl with | [_, _, _], _ => rfl
    m10 := He.glo_ok X G (c.t.d.fact 10 (f := .glo "_law_exp") rfl)
    F11 := F11
    b11 := FunD.bindsN F11 fun _ _ _ _ _ _ us hl => match us, hl with | [_, _, _], _ => rfl
    m11 := He.glo_ok X G (c.t.d.fact 11 (f := .glo "_law_com") rfl)
    F12 := F12
    b12 := FunD.bindsN F12 fun _ _ _ _ _ _ us hl => match us, hl with | [_, _], _ => rfl
    m12 := He.glo_ok X G (c.t.d.fact 12 (f := .glo "_law_module") rfl)
    F13 := F13
    b13 := FunD.bindsN F13 fun _ _ _ _ _ _ us hl => match us, hl with | [_, _], _ => rfl
    m13 := He.glo_ok X G (c.t.d.fact 13 (f := .glo "_law_linked") rfl)
    F14 := F14
    b14 := FunD.bindsN F14 fun _ _ _ _ _ _ us hl => match us, hl with | [_, _], _ => rfl
    m14 := He.glo_ok X G (c.t.d.fact 14 (f := .glo "_law_told") rfl)
    F15 := F15
    b15 := FunD.bindsN F15 fun _ _ _ _ _ _ us hl => match us, hl with | [_], _ => rfl
    m15 := He.glo_ok X G (c.t.d.fact 15 (f := .glo "_law_long") rfl)
    F16 := F16
    b16 := FunD.bindsN F16 fun _ _ _ _ _ _ us hl => match us, hl with | [_], _ => rfl
    m16 := He.glo_ok X G (c.t.d.fact 16 (f := .glo "_law_deep") rfl)
    F17 := F17
    b17 := FunD.bindsN F17 fun _ _ _ _ _ _ us hl => match us, hl with | [_], _ => rfl
    m17 := He.glo_ok X G (c.t.d.fact 17 (f := .glo "law") rfl)
    z_int := He.free_ok X G (c.t.d.fact 19 (f := .free "int") rfl)
    z_isinstance := He.free_ok X G (c.t.d.fact 20 (f := .free "isinstance") rfl)
    z_len := He.free_ok X G (c.t.d.fact 21 (f := .free "len") rfl)
    z_max := He.free_ok X G (c.t.d.fact 22 (f := .free "max") rfl)
    z_range := He.free_ok X G (c.t.d.fact 23 (f := .free "range") rfl)
    z_reversed := He.free_ok X G (c.t.d.fact 24 (f := .free "reversed") rfl)
    z_tuple := He.free_ok X G (c.t.d.fact 25 (f := .free "tuple") rfl)
    z_zip := He.free_ok X G (c.t.d.fact 26 (f := .free "zip") rfl)
    c_FORMS := tab_ok X G (c.f 0 (f := .tab "FORMS" tab_FORMS) rfl) (c.t.d.fact 18 (f := .glo "FORMS") rfl) D0
    c_KINDS := con_ok X G (c.f 1 (f := .con "KINDS" (.tup [(.str "com"), (.str "exp")])) rfl)
    c_MAX_LEVEL := con_ok X G (c.f 2 (f := .con "MAX_LEVEL" (.int 30)) rfl)
    c_MAX_NODES := con_ok X G (c.f 3 (f := .con "MAX_NODES" (.int 400)) rfl)
    x_BadKind := exn_ok X G (c.t.d.fact 27 (f := .glo "BadKind") rfl) (c.t.d.fact 32 (f := .exc "BadKind") rfl)
    x_BadName := exn_ok X G (c.t.d.fact 28 (f := .glo "BadName") rfl) (c.t.d.fact 33 (f := .exc "BadName") rfl)
    x_TooLarge := exn_ok X G (c.t.d.fact 31 (f := .glo "TooLarge") rfl) (c.t.d.fact 34 (f := .exc "TooLarge") rfl)
    xm_BadKind_BadKind := exmF_ok X G (c.t.d.fact 27 (f := .glo "BadKind") rfl) (c.t.d.fact 27 (f := .glo "BadKind") rfl) (c.t.d.fact 35 (f := .exm "BadKind" "BadKind" true) rfl)
    xm_BadKind_BadName := exmF_ok X G (c.t.d.fact 27 (f := .glo "BadKind") rfl) (c.t.d.fact 28 (f := .glo "BadName") rfl) (c.t.d.fact 36 (f := .exm "BadKind" "BadName" false) rfl)
    xm_BadKind_TooLarge := exmF_ok X G (c.t.d.fact 27 (f := .glo "BadKind") rfl) (c.t.d.fact 31 (f := .glo "TooLarge") rfl) (c.t.d.fact 37 (f := .exm "BadKind" "TooLarge" false) rfl)
    xm_BadName_BadKind := exmF_ok X G (c.t.d.fact 28 (f := .glo "BadName") rfl) (c.t.d.fact 27 (f := .glo "BadKind") rfl) (c.t.d.fact 38 (f := .exm "BadName" "BadKind" false) rfl)
    xm_BadName_BadName := exmF_ok X G (c.t.d.fact 28 (f := .glo "BadName") rfl) (c.t.d.fact 28 (f := .glo "BadName") rfl) (c.t.d.fact 39 (f := .exm "BadName" "BadName" true) rfl)
    xm_BadName_TooLarge := exmF_ok X G (c.t.d.fact 28 (f := .glo "BadName") rfl) (c.t.d.fact 31 (f := .glo "TooLarge") rfl) (c.t.d.fact 40 (f := .exm "BadName" "TooLarge" false) rfl)
    xm_DoppelError_BadKind := exmF_ok X G (c.t.d.fact 29 (f := .glo "DoppelError") rfl) (c.t.d.fact 27 (f := .glo "BadKind") rfl) (c.t.d.fact 41 (f := .exm "DoppelError" "BadKind" false) rfl)
    xm_DoppelError_BadName := exmF_ok X G (c.t.d.fact 29 (f := .glo "DoppelError") rfl) (c.t.d.fact 28 (f := .glo "BadName") rfl) (c.t.d.fact 42 (f := .exm "DoppelError" "BadName" false) rfl)
    xm_DoppelError_TooLarge := exmF_ok X G (c.t.d.fact 29 (f := .glo "DoppelError") rfl) (c.t.d.fact 31 (f := .glo "TooLarge") rfl) (c.t.d.fact 43 (f := .exm "DoppelError" "TooLarge" false) rfl)
    xm_NotAllowed_BadKind := exmF_ok X G (c.t.d.fact 30 (f := .glo "NotAllowed") rfl) (c.t.d.fact 27 (f := .glo "BadKind") rfl) (c.t.d.fact 44 (f := .exm "NotAllowed" "BadKind" false) rfl)
    xm_NotAllowed_BadName := exmF_ok X G (c.t.d.fact 30 (f := .glo "NotAllowed") rfl) (c.t.d.fact 28 (f := .glo "BadName") rfl) (c.t.d.fact 45 (f := .exm "NotAllowed" "BadName" false) rfl)
    xm_NotAllowed_TooLarge := exmF_ok X G (c.t.d.fact 30 (f := .glo "NotAllowed") rfl) (c.t.d.fact 31 (f := .glo "TooLarge") rfl) (c.t.d.fact 46 (f := .exm "NotAllowed" "TooLarge" false) rfl)
    xm_TooLarge_BadKind := exmF_ok X G (c.t.d.fact 31 (f := .glo "TooLarge") rfl) (c.t.d.fact 27 (f := .glo "BadKind") rfl) (c.t.d.fact 47 (f := .exm "TooLarge" "BadKind" false) rfl)
    xm_TooLarge_BadName := exmF_ok X G (c.t.d.fact 31 (f := .glo "TooLarge") rfl) (c.t.d.fact 28 (f := .glo "BadName") rfl) (c.t.d.fact 48 (f := .exm "TooLarge" "BadName" false) rfl)
    xm_TooLarge_TooLarge := exmF_ok X G (c.t.d.fact 31 (f := .glo "TooLarge") rfl) (c.t.d.fact 31 (f := .glo "TooLarge") rfl) (c.t.d.fact 49 (f := .exm "TooLarge" "TooLarge" true) rfl)
    is_BadKind_BadKind := isxF_ok X G (c.t.d.fact 27 (f := .glo "BadKind") rfl) (c.t.d.fact 27 (f := .glo "BadKind") rfl) (c.f 4 (f := .isx "BadKind" "BadKind" true) rfl)
    is_BadKind_BadName := isxF_ok X G (c.t.d.fact 27 (f := .glo "BadKind") rfl) (c.t.d.fact 28 (f := .glo "BadName") rfl) (c.f 5 (f := .isx "BadKind" "BadName" false) rfl)
    is_BadKind_DoppelError := isxF_ok X G (c.t.d.fact 27 (f := .glo "BadKind") rfl) (c.t.d.fact 29 (f := .glo "DoppelError") rfl) (c.f 6 (f := .isx "BadKind" "DoppelError" true) rfl)
    is_BadKind_NotAllowed := isxF_ok X G (c.t.d.fact 27 (f := .glo "BadKind") rfl) (c.t.d.fact 30 (f := .glo "NotAllowed") rfl) (c.f 7 (f := .isx "BadKind" "NotAllowed" false) rfl)
    is_BadKind_TooLarge := isxF_ok X G (c.t.d.fact 27 (f := .glo "BadKind") rfl) (c.t.d.fact 31 (f := .glo "TooLarge") rfl) (c.f 8 (f := .isx "BadKind" "TooLarge" false) rfl)
    is_BadName_BadKind := isxF_ok X G (c.t.d.fact 28 (f := .glo "BadName") rfl) (c.t.d.fact 27 (f := .glo "BadKind") rfl) (c.f 9 (f := .isx "BadName" "BadKind" false) rfl)
    is_BadName_BadName := isxF_ok X G (c.t.d.fact 28 (f := .glo "BadName") rfl) (c.t.d.fact 28 (f := .glo "BadName") rfl) (c.f 10 (f := .isx "BadName" "BadName" true) rfl)
    is_BadName_DoppelError := isxF_ok X G (c.t.d.fact 28 (f := .glo "BadName") rfl) (c.t.d.fact 29 (f := .glo "DoppelError") rfl) (c.f 11 (f := .isx "BadName" "DoppelError" true) rfl)
    is_BadName_NotAllowed := isxF_ok X G (c.t.d.fact 28 (f := .glo "BadName") rfl) (c.t.d.fact 30 (f := .glo "NotAllowed") rfl) (c.f 12 (f := .isx "BadName" "NotAllowed" false) rfl)
    is_BadName_TooLarge := isxF_ok X G (c.t.d.fact 28 (f := .glo "BadName") rfl) (c.t.d.fact 31 (f := .glo "TooLarge") rfl) (c.f 13 (f := .isx "BadName" "TooLarge" false) rfl)
    is_DoppelError_BadKind := isxF_ok X G (c.t.d.fact 29 (f := .glo "DoppelError") rfl) (c.t.d.fact 27 (f := .glo "BadKind") rfl) (c.f 14 (f := .isx "DoppelError" "BadKind" false) rfl)
    is_DoppelError_BadName := isxF_ok X G (c.t.d.fact 29 (f := .glo "DoppelError") rfl) (c.t.d.fact 28 (f := .glo "BadName") rfl) (c.f 15 (f := .isx "DoppelError" "BadName" false) rfl)
    is_DoppelError_DoppelError := isxF_ok X G (c.t.d.fact 29 (f := .glo "DoppelError") rfl) (c.t.d.fact 29 (f := .glo "DoppelError") rfl) (c.f 16 (f := .isx "DoppelError" "DoppelError" true) rfl)
    is_DoppelError_NotAllowed := isxF_ok X G (c.t.d.fact 29 (f := .glo "DoppelError") rfl) (c.t.d.fact 30 (f := .glo "NotAllowed") rfl) (c.f 17 (f := .isx "DoppelError" "NotAllowed" false) rfl)
    is_DoppelError_TooLarge := isxF_ok X G (c.t.d.fact 29 (f := .glo "DoppelError") rfl) (c.t.d.fact 31 (f := .glo "TooLarge") rfl) (c.f 18 (f := .isx "DoppelError" "TooLarge" false) rfl)
    is_NotAllowed_BadKind := isxF_ok X G (c.t.d.fact 30 (f := .glo "NotAllowed") rfl) (c.t.d.fact 27 (f := .glo "BadKind") rfl) (c.f 19 (f := .isx "NotAllowed" "BadKind" false) rfl)
    is_NotAllowed_BadName := isxF_ok X G (c.t.d.fact 30 (f := .glo "NotAllowed") rfl) (c.t.d.fact 28 (f := .glo "BadName") rfl) (c.f 20 (f := .isx "NotAllowed" "BadName" false) rfl)
    is_NotAllowed_DoppelError := isxF_ok X G (c.t.d.fact 30 (f := .glo "NotAllowed") rfl) (c.t.d.fact 29 (f := .glo "DoppelError") rfl) (c.f 21 (f := .isx "NotAllowed" "DoppelError" true) rfl)
    is_NotAllowed_NotAllowed := isxF_ok X G (c.t.d.fact 30 (f := .glo "NotAllowed") rfl) (c.t.d.fact 30 (f := .glo "NotAllowed") rfl) (c.f 22 (f := .isx "NotAllowed" "NotAllowed" true) rfl)
    is_NotAllowed_TooLarge := isxF_ok X G (c.t.d.fact 30 (f := .glo "NotAllowed") rfl) (c.t.d.fact 31 (f := .glo "TooLarge") rfl) (c.f 23 (f := .isx "NotAllowed" "TooLarge" false) rfl)
    is_TooLarge_BadKind := isxF_ok X G (c.t.d.fact 31 (f := .glo "TooLarge") rfl) (c.t.d.fact 27 (f := .glo "BadKind") rfl) (c.f 24 (f := .isx "TooLarge" "BadKind" false) rfl)
    is_TooLarge_BadName := isxF_ok X G (c.t.d.fact 31 (f := .glo "TooLarge") rfl) (c.t.d.fact 28 (f := .glo "BadName") rfl) (c.f 25 (f := .isx "TooLarge" "BadName" false) rfl)
    is_TooLarge_DoppelError := isxF_ok X G (c.t.d.fact 31 (f := .glo "TooLarge") rfl) (c.t.d.fact 29 (f := .glo "DoppelError") rfl) (c.f 26 (f := .isx "TooLarge" "DoppelError" true) rfl)
    is_TooLarge_NotAllowed := isxF_ok X G (c.t.d.fact 31 (f := .glo "TooLarge") rfl) (c.t.d.fact 30 (f := .glo "NotAllowed") rfl) (c.f 27 (f := .isx "TooLarge" "NotAllowed" false) rfl)
    is_TooLarge_TooLarge := isxF_ok X G (c.t.d.fact 31 (f := .glo "TooLarge") rfl) (c.t.d.fact 31 (f := .glo "TooLarge") rfl) (c.f 28 (f := .isx "TooLarge" "TooLarge" true) rfl)
  }
end Lw
namespace Lw
open PySem PySem.Spec PyProof.Rows L2 RZ Dg
section
variable {s : Slots} {μ : Mem} {Q : U → Mem → Prop} {E : Str → Mem → Prop}
theorem w_powI {i j : Int} : wpE (uPow (.int i) (.int j) μ) Q E = ((0 ≤ j ∧ j ≤ 1000000 ∧ i.natAbs < 2 ^ 64) ∧ Q (.int (i ^ j.toNat)) μ) := by
  show wpE (if 0 ≤ j ∧ j ≤ 1000000 ∧ i.natAbs < 2 ^ 64 then _ else _) Q E = _
  split
  · rename_i h; simp only [h, wpE, true_and]
  · rename_i h; simp only [h, wpE, false_and]
theorem w_isi {T : String} {a : FE} : wpE (fIsi T a s μ) Q E = wpE (a s μ) (fun u μ1 => ∃ t, tyU μ1 u = some t ∧ Q (.bl (isTy T t)) μ1) E := by
  unfold fIsi; rw [w_bind]; congr 1; funext u μ1
  cases tyU μ1 u <;> simp [wpE]
theorem w_neg {a : FE} : wpE (fNeg a s μ) Q E = wpE (a s μ) (fun u μ1 => ∃ i, u = .int i ∧ Q (.int (-i)) μ1) E := by
  unfold fNeg; rw [w_bind]; congr 1; funext u μ1
  cases u <;> simp [wpE]
theorem w_andE {a b : FE} : wpE (fAnd a b s μ) Q E = wpE (a s μ) (fun u μ1 => ∃ c, u = .bl c ∧ if c = true then wpE (b s μ1) Q E else Q (.bl false) μ1) E := by
  unfold fAnd; rw [w_bind]; congr 1; funext u μ1
  cases u with
  | bl c => cases c <;> simp [wpE]
  | _ => simp [wpE]
theorem w_orE {a b : FE} : wpE (fOr a b s μ) Q E = wpE (a s μ) (fun u μ1 => ∃ c, u = .bl c ∧ if c = true then Q (.bl true) μ1 else wpE (b s μ1) Q E) E := by
  unfold fOr; rw [w_bind]; congr 1; funext u μ1
  cases u with
  | bl c => cases c <;> simp [wpE]
  | _ => simp [wpE]
theorem w_notE {a : FE} : wpE (fNot a s μ) Q E = wpE (a s μ) (fun u μ1 => ∃ c, u = .bl c ∧ Q (.bl (!c)) μ1) E := by
  unfold fNot; rw [w_bind]; congr 1; funext u μ1
  cases u <;> simp [wpE]
theorem w_chain {f g : U → U → Mem → Res U} {a b c : FE} : wpE (fChain f g a b c s μ) Q E = wpE (a s μ) (fun x μ1 => wpE (b s μ1) (fun y μ2 => wpE (f x y μ2) (fun z μ3 => ∃ t, z = .bl t ∧ if t = true then wpE (c s μ3) (fun w μ4 => wpE (g y w μ4) Q E) E else Q (.bl false) μ3) E) E) E := by
  unfold fChain; rw [w_bind]; congr 1; funext x μ1; rw [w_bind]; congr 1; funext y μ2; rw [w_bind]; congr 1; funext z μ3
  cases z with
  | bl t =>
    cases t with
    | false => simp [wpE]
    | true =>
      show wpE ((c s μ3).bind fun w μ4 => g y w μ4) Q E = _
      rw [w_bind]
      simp
  | _ => simp [wpE]
theorem s_raise {x : Str} {a : FE} {D : Dn} : wpS (sRaise x a s μ) D = wpE (a s μ) (fun u μ1 => D.ex x s μ1) (fun c μ => D.ex c s μ) := by
  unfold sRaise; rw [w_ofR]
  rfl
theorem ty_L {r : Nat} {us : List U} (h : μ[r]? = some (.lst us)) : tyU μ (.ref r) = some "list" := by unfold tyU; simp only [h]
theorem ty_T {us : List U} : tyU μ (.tup us) = some "tuple" := rfl
theorem ty_I {i : Int} : tyU μ (.int i) = some "int" := rfl
theorem ty_B {b : Bool} : tyU μ (.bl b) = some "bool" := rfl
theorem tru_b {b : Bool} : truU μ (.bl b) = some b := rfl
theorem truL {r : Nat} {us : List U} (h : μ[r]? = some (.lst us)) : truU μ (.ref r) = some (!us.isEmpty) := by
  unfold truU; simp only [h]
end

/-- all cells stay -/
structure Fr (μ μ' : Mem) : Prop where
  le : μ.length ≤ μ'.length
  at_ : ∀ (i : Nat) (c : Cell), μ[i]? = some c → μ'[i]? = some c
section
variable {μ μ' μ'' : Mem}
theorem Fr.refl : Fr μ μ := ⟨Nat.le_refl _, fun _ _ h => h⟩
theorem Fr.trans (a : Fr μ μ') (b : Fr μ' μ'') : Fr μ μ'' := ⟨Nat.le_trans a.le b.le, fun i c h => b.at_ i c (a.at_ i c h)⟩
theorem Fr.snoc {c : Cell} (a : Fr μ μ') : Fr μ (μ' ++ [c]) := ⟨by have := a.le; simp; omega, fun i d h => get_snoc_lt (a.at_ i d h)⟩
theorem Fr.put {c : Cell} {i : Nat} (a : Fr μ μ') (h : μ.length ≤ i) : Fr μ (μ'.set i c) := ⟨by simpa using a.le, fun j d hj => get_set_ne (a.at_ j d hj) (by have := get_lt hj; omega)⟩
end
section
variable {s : Slots} {μ : Mem} {Q : U → Mem → Prop} {E : Str → Mem → Prop}
theorem w_sl {a : FE} {lo hi : FO} : wpE (fSl a lo hi s μ) Q E = wpE (a s μ) (fun u μ1 => wpE (lo s μ1) (fun l μ2 => wpE (hi s μ2) (fun h μ3 => wpE (slU u l h μ3) Q E) E) E) E := by
  unfold fSl; rw [w_bind]; congr 1; funext u μ1; rw [w_bind]; congr 1; funext l μ2; rw [w_bind]
theorem w_oNone {Q : Option Int → Mem → Prop} : wpE (oNone s μ) Q E = Q none μ := propext ⟨fun h => h, fun h => h⟩
theorem w_oSome {a : FE} {Q : Option Int → Mem → Prop} : wpE (oSome a s μ) Q E = wpE (a s μ) (fun u μ1 => ∃ i, u = .int i ∧ Q (some i) μ1) E := by
  unfold oSome; rw [w_bind]; congr 1; funext u μ1
  cases u <;> simp [wpE]
theorem sl_L {r : Nat} {us : List U} {lo hi : Option Int} (h : μ[r]? = some (.lst us)) : slU (.ref r) lo hi μ = .ok (.ref μ.length) (μ ++ [.lst (cutU us lo hi)]) := by
  unfold slU; simp only [lstU_L h]
theorem w_slL {r : Nat} {us : List U} {lo hi : Option Int} (h : μ[r]? = some (.lst us)) : wpE (slU (.ref r) lo hi μ) Q E = Q (.ref μ.length) (μ ++ [.lst (cutU us lo hi)]) := by rw [sl_L h]; rfl
theorem w_slT {us : List U} {lo hi : Option Int} : wpE (slU (.tup us) lo hi μ) Q E = Q (.tup (cutU us lo hi)) μ := propext ⟨fun h => h, fun h => h⟩
theorem w_slF {us : List U} {lo hi : Option Int} : wpE (slU (.frl us) lo hi μ) Q E = Q (.ref μ.length) (μ ++ [.lst (cutU us lo hi)]) := propext ⟨fun h => h, fun h => h⟩
theorem w_ixF {us : List U} {i : Int} : wpE (ixU (.frl us) (.int i) μ) Q E = ∃ a, atI us i = some a ∧ Q a μ := w_res
theorem w_lenF {us : List U} : wpE (bLen [.frl us] μ) Q E = Q (.int us.length) μ := propext ⟨fun h => h, fun h => h⟩
theorem w_lenS {z : Str} : wpE (bLen [.str z] μ) Q E = (z.length ≤ lim ∧ Q (.int z.length) μ) := by
  by_cases h : z.length ≤ lim
  · have : bLen [.str z] μ = .ok (.int z.length) μ := by unfold bLen lenU; simp only [h, if_true]
    rw [this]; simp [wpE, h]
  · have : bLen [.str z] μ = .bad := by unfold bLen lenU; simp only [h, if_false]
    rw [this]; simp [wpE, h]
theorem w_abs {i : Int} : wpE (bAbs [.int i] μ) Q E = Q (.int i.natAbs) μ := by
  show Q (.int (if i < 0 then -i else i)) μ = _
  congr 2; split <;> omega
theorem w_max2 {i j : Int} : wpE (bMax [.int i, .int j] μ) Q E = Q (.int (max i j)) μ := by
  show Q (.int (if j > i then j else i)) μ = _
  congr 2; split <;> omega
theorem w_min2 {i j : Int} : wpE (bMin [.int i, .int j] μ) Q E = Q (.int (min i j)) μ := by
  show Q (.int (if j < i then j else i)) μ = _
  congr 2; split <;> omega
end
theorem s_tryAs {tab : List (Str × Bool)} {i : Nat} {b : FS} {ms : Str → FE} {s : Slots} {μ : Mem} {D : Dn} : wpS (sTryAs tab i b ms s μ) D = wpS (b s μ) { D with ex := fun c s1 μ1 => ∃ t, tab.lookup c = some t ∧ if t = true then i < s1.length ∧ wpE (ms c (s1.set i none) μ1) (fun u μ2 => D.rt u μ2) (fun c μ => D.ex c (s1.set i none) μ) else D.ex c s1 μ1 } := by
  unfold sTryAs
  cases b s μ with
  | ex c s1 μ1 =>
    show Dg.wpS (match tab.lookup c with
      | some true => _
      | some false => _
      | none => _) D = ∃ t, tab.lookup c = some t ∧ _
    cases tab.lookup c with
    | none => simp [Dg.wpS]
    | some t =>
      cases t with
      | false => simp [Dg.wpS]
      | true =>
        simp only [Option.some.injEq, exists_eq_left', if_true]
        split
        · rename_i h; simp only [h, true_and]; exact w_ofR
        · rename_i h; simp [h, Dg.wpS]
  | _ => rfl
theorem s_try {tab : List (Str × Bool)} {b u : FS} {s : Slots} {μ : Mem} {D : Dn} : wpS (sTry tab b u s μ) D = wpS (b s μ) { D with ex := fun c s1 μ1 => ∃ t, tab.lookup c = some t ∧ if t = true then wpS (u s1 μ1) D else D.ex c s1 μ1 } := by
  unfold sTry
  cases b s μ with
  | ex c s1 μ1 =>
    show Dg.wpS (match tab.lookup c with
      | some true => _
      | some false => _
      | none => _) D = ∃ t, tab.lookup c = some t ∧ _
    cases tab.lookup c with
    | none => simp [Dg.wpS]
    | some t =>
      cases t with
      | false => simp [Dg.wpS]
      | true => simp
  | _ => rfl
theorem w_isX {tab : List (Str × Bool)} {c : Str} {s : Slots} {μ : Mem} {Q : U → Mem → Prop} {E : Str → Mem → Prop} : wpE (fIsX tab c s μ) Q E = ∃ b, tab.lookup c = some b ∧ Q (.bl b) μ := by
  unfold fIsX
  cases tab.lookup c with
  | none => simp [wpE]
  | some b => simp [w_c]
/-! texts with places -/
theorem strOk_of (x : String) : PyData.strOk (Str.ofString x) = true := by
  rw [Str.ofString_eq_toList]
  unfold PyData.strOk
  rw [Array.all_eq_true']
  intro c hc
  simp only [List.mem_toArray, List.mem_map] at hc
  obtain ⟨ch, _, rfl⟩ := hc
  have := ch.valid
  simp only [decide_eq_true_eq]
  rcases this with h | h
  · exact Nat.lt_of_lt_of_le h (by decide)
  · exact h.2
def fmtOk (u : U) (y : Str) : Prop := (u = .str y ∧ y.length ≤ lim) ∨ ∃ i : Int, u = .int i ∧ i.natAbs.log2 < 1920 ∧ y = (toString i : Str)
section
variable {s : Slots} {μ : Mem} {Q : U → Mem → Prop} {E : Str → Mem → Prop}
theorem w_fmt {a : FE} : wpE (fFmt a s μ) Q E = wpE (a s μ) (fun u μ1 => ∃ y, fmtOk u y ∧ Q (.str y) μ1) E := by
  unfold fFmt; rw [w_bind]; congr 1; funext u μ1
  cases u with
  | str y =>
    apply propext
    constructor
    · intro h
      simp only at h
      split at h
      · rename_i hl; exact ⟨y, .inl ⟨rfl, hl⟩, h⟩
      · exact h.elim
    · rintro ⟨z, h | ⟨i, h, _⟩, q⟩
      · cases h.1; simp only [h.2, if_true]; exact q
      · cases h
  | int i =>
    apply propext
    constructor
    · intro h
      simp only at h
      split at h
      · rename_i hl; exact ⟨_, .inr ⟨i, rfl, hl.1, rfl⟩, h⟩
      · exact h.elim
    · rintro ⟨z, h | ⟨j, h, h2, h3⟩, q⟩
      · cases h.1
      · cases h; subst h3; simp only [h2, strOk_of, and_self, if_true]; exact q
  | _ =>
    apply propext
    constructor
    · intro h; exact h.elim
    · rintro ⟨z, h | ⟨j, h, h2, h3⟩, q⟩
      · cases h.1
      · cases h
theorem w_js0 {acc : Str} : wpE (fJs [] acc s μ) Q E = Q (.str acc) μ := propext ⟨fun h => h, fun h => h⟩
theorem w_js {p : FE} {ps : List FE} {acc : Str} : wpE (fJs (p :: ps) acc s μ) Q E = wpE (p s μ) (fun u μ1 => ∃ y, u = .str y ∧ (acc ++ y).length ≤ lim ∧ wpE (fJs ps (acc ++ y) s μ1) Q E) E := by
  show wpE ((p s μ).bind _) Q E = _
  rw [w_bind]; congr 1; funext u μ1
  cases u with
  | str y =>
    simp only [U.str.injEq, exists_eq_left']
    split
    · rename_i h; simp [h]
    · rename_i h; simp [h, wpE]
  | _ => simp [wpE]
theorem len_app (a b : Str) : (a ++ b).length = a.length + b.length := by
  show (a.cps ++ b.cps).size = a.cps.size + b.cps.size
  simp
theorem fmt_str {y : Str} (h : y.length ≤ lim) : fmtOk (.str y) y := .inl ⟨rfl, h⟩
theorem fmt_int {i : Int} (h : i.natAbs < 2 ^ 64) : fmtOk (.int i) (toString i : Str) := .inr ⟨i, rfl, by
  have := Nat.log2_lt (n := i.natAbs) (k := 64)
  by_cases z : i.natAbs = 0
  · rw [z]; decide
  · have := (this z).mpr h
    omega, rfl⟩
end
/-! what is pure: data without lists; == of it -/
mutual
def sz : U → Nat
  | .tup us => 1 + szs us
  | _ => 1
def szs : List U → Nat
  | [] => 0
  | u :: us => sz u + szs us
end
mutual
def dp : U → Nat
  | .tup us => dps us + 1
  | _ => 0
def dps : List U → Nat
  | [] => 0
  | u :: us => max (dp u) (dps us)
end
mutual
def pu : U → Bool
  | .tup us => pus us
  | .str _ => true
  | .int _ => true
  | .bl _ => true
  | .non => true
  | _ => false
def pus : List U → Bool
  | [] => true
  | u :: us => pu u && pus us
end
mutual
theorem pu_data {u : U} (h : pu u = true) : ∃ d : PyData, (∀ g, toD g u = some d) ∧ PyData.eqv d d = true ∧ d.depth = dp u := by
  cases u with
  | tup us =>
    obtain ⟨ds, h1, h2, h3⟩ := pus_data (us := us) (by simpa [pu] using h)
    exact ⟨.tuple ds, fun g => by simp [toD, h1], by simpa [PyData.eqv] using h2, by simp [PyData.depth, dp, h3]⟩
  | str s => exact ⟨.str s, fun g => rfl, by simp [PyData.eqv], by simp [PyData.depth, dp]⟩
  | int i => exact ⟨.int i, fun g => rfl, by simp [PyData.eqv], by simp [PyData.depth, dp]⟩
  | bl b => exact ⟨.bool b, fun g => rfl, by simp [PyData.eqv], by simp [PyData.depth, dp]⟩
  | non => exact ⟨.none, fun g => rfl, by simp [PyData.eqv], by simp [PyData.depth, dp]⟩
  | _ => simp [pu] at h
theorem pus_data {us : List U} (h : pus us = true) : ∃ ds : List PyData, (∀ g, toDs g us = some ds) ∧ PyData.eqvAll ds ds = true ∧ PyData.depthAll ds = dps us := by
  cases us with
  | nil => exact ⟨[], fun g => rfl, rfl, rfl⟩
  | cons u us =>
    obtain ⟨h1, h2⟩ : pu u = true ∧ pus us = true := by simpa [pus] using h
    obtain ⟨d, a1, a2, a3⟩ := pu_data h1
    obtain ⟨ds, b1, b2, b3⟩ := pus_data h2
    exact ⟨d :: ds, fun g => by simp [toDs, a1, b1], by simp [PyData.eqvAll, a2, b2], by simp [PyData.depthAll, dps, a3, b3]⟩
end
/-- == of the same -/
theorem eq_self {u : U} {μ : Mem} (h : pu u = true) (hd : dp u ≤ 800) : eqU u u μ = some true := by
  obtain ⟨d, a, b, c⟩ := pu_data h
  unfold Dg.eqU datU
  simp only [a]
  rw [if_pos (by rw [c]; simp [eqLim]; omega), b]
/-- == of two lists of the same -/
theorem eq_lists {r1 r2 : Nat} {us : List U} {μ : Mem} (h1 : μ[r1]? = some (.lst us)) (h2 : μ[r2]? = some (.lst us)) (h : pus us = true) (hd : dps us ≤ 799) : eqU (.ref r1) (.ref r2) μ = some true := by
  obtain ⟨ds, a, b, c⟩ := pus_data h
  have e1 : datU μ (.ref r1) = some (.list ds) := by simp [datU, toD, refD, h1, a]
  have e2 : datU μ (.ref r2) = some (.list ds) := by simp [datU, toD, refD, h2, a]
  unfold Dg.eqU
  simp only [e1, e2]
  rw [if_pos (by simp [PyData.depth, c, eqLim]; omega)]
  simp [PyData.eqv, b]
/-! the same without truth values: == is = -/
mutual
def pd : U → Bool
  | .tup us => pds us
  | .str _ => true
  | .int _ => true
  | .non => true
  | _ => false
def pds : List U → Bool
  | [] => true
  | u :: us => pd u && pds us
end
mutual
theorem pd_pu {u : U} (h : pd u = true) : pu u = true := by
  cases u with
  | tup us => simp only [pu]; exact pds_pus (by simpa [pd] using h)
  | str s => rfl
  | int i => rfl
  | non => rfl
  | _ => simp [pd] at h
theorem pds_pus {us : List U} (h : pds us = true) : pus us = true := by
  cases us with
  | nil => rfl
  | cons u us =>
    obtain ⟨h1, h2⟩ : pd u = true ∧ pds us = true := by simpa [pds] using h
    simp [pus, pd_pu h1, pds_pus h2]
end
mutual
theorem pd_eq {u w : U} {g : Nat → Option PyData} {d e : PyData} (hu : pd u = true) (hw : pd w = true) (du : toD g u = some d) (dw : toD g w = some e) : PyData.eqv d e = true ↔ u = w := by
  cases u with
  | tup us =>
    simp only [toD, Option.map_eq_some_iff] at du
    obtain ⟨ds, du, rfl⟩ := du
    cases w with
    | tup ws =>
      simp only [toD, Option.map_eq_some_iff] at dw
      obtain ⟨es, dw, rfl⟩ := dw
      have := pds_eq (by simpa [pd] using hu) (by simpa [pd] using hw) du dw
      simp only [PyData.eqv, this, U.tup.injEq]
    | str s => cases dw; simp [PyData.eqv]
    | int i => cases dw; simp [PyData.eqv]
    | non => cases dw; simp [PyData.eqv]
    | _ => simp [pd] at hw
  | str s =>
    cases du
    cases w with
    | tup ws =>
      simp only [toD, Option.map_eq_some_iff] at dw
      obtain ⟨es, dw, rfl⟩ := dw
      simp [PyData.eqv]
    | str s => cases dw; simp [PyData.eqv]
    | int i => cases dw; simp [PyData.eqv]
    | non => cases dw; simp [PyData.eqv]
    | _ => simp [pd] at hw
  | int s =>
    cases du
    cases w with
    | tup ws =>
      simp only [toD, Option.map_eq_some_iff] at dw
      obtain ⟨es, dw, rfl⟩ := dw
      simp [PyData.eqv]
    | str s => cases dw; simp [PyData.eqv]
    | int i => cases dw; simp [PyData.eqv]
    | non => cases dw; simp [PyData.eqv]
    | _ => simp [pd] at hw
  | non =>
    cases du
    cases w with
    | tup ws =>
      simp only [toD, Option.map_eq_some_iff] at dw
      obtain ⟨es, dw, rfl⟩ := dw
      simp [PyData.eqv]
    | str s => cases dw; simp [PyData.eqv]
    | int i => cases dw; simp [PyData.eqv]
    | non => cases dw; simp [PyData.eqv]
    | _ => simp [pd] at hw
  | _ => simp [pd] at hu
theorem pds_eq {us ws : List U} {g : Nat → Option PyData} {ds es : List PyData} (hu : pds us = true) (hw : pds ws = true) (du : toDs g us = some ds) (dw : toDs g ws = some es) : PyData.eqvAll ds es = true ↔ us = ws := by
  cases us with
  | nil =>
    cases du
    cases ws with
    | nil => cases dw; simp [PyData.eqvAll]
    | cons w ws =>
      simp only [toDs] at dw
      split at dw
      · cases dw; simp [PyData.eqvAll]
      · cases dw
  | cons u us =>
    obtain ⟨h1, h2⟩ : pd u = true ∧ pds us = true := by simpa [pds] using hu
    simp only [toDs] at du
    split at du
    · rename_i d ds' d1 d2
      cases du
      cases ws with
      | nil => cases dw; simp [PyData.eqvAll]
      | cons w ws =>
        obtain ⟨k1, k2⟩ : pd w = true ∧ pds ws = true := by simpa [pds] using hw
        simp only [toDs] at dw
        split at dw
        · rename_i e es' e1 e2
          cases dw
          simp only [PyData.eqvAll, Bool.and_eq_true, pd_eq h1 k1 d1 e1, pds_eq h2 k2 d2 e2, List.cons.injEq]
        · cases dw
    · cases du
end
/-- == of data without truth values -/
theorem eq_pd {u w : U} {μ : Mem} (hu : pd u = true) (hw : pd w = true) (hd : min (dp u) (dp w) ≤ 800) : ∃ b, eqU u w μ = some b ∧ (b = true ↔ u = w) := by
  obtain ⟨d, a, _, c⟩ := pu_data (pd_pu hu)
  obtain ⟨e, a2, _, c2⟩ := pu_data (pd_pu hw)
  refine ⟨PyData.eqv d e, ?_, pd_eq hu hw (a (fun _ => none)) (a2 _)⟩
  unfold Dg.eqU datU
  simp only [a, a2]
  rw [if_pos (by rw [c, c2]; simp [eqLim]; omega)]
theorem eq_lpd {r1 r2 : Nat} {us ws : List U} {μ : Mem} (h1 : μ[r1]? = some (.lst us)) (h2 : μ[r2]? = some (.lst ws)) (hu : pds us = true) (hw : pds ws = true) (hd : min (dps us) (dps ws) ≤ 799) : ∃ b, eqU (.ref r1) (.ref r2) μ = some b ∧ (b = true ↔ us = ws) := by
  obtain ⟨ds, a, _, c⟩ := pus_data (pds_pus hu)
  obtain ⟨es, a2, _, c2⟩ := pus_data (pds_pus hw)
  have e1 : datU μ (.ref r1) = some (.list ds) := by simp [datU, toD, refD, h1, a]
  have e2 : datU μ (.ref r2) = some (.list es) := by simp [datU, toD, refD, h2, a2]
  refine ⟨PyData.eqv (.list ds) (.list es), ?_, ?_⟩
  · unfold Dg.eqU
    simp only [e1, e2]
    rw [if_pos (by simp [PyData.depth, c, c2, eqLim]; omega)]
  · simp only [PyData.eqv]
    exact pds_eq hu hw (a (fun _ => none)) (a2 _)
/-- the run ends and gives True -/
structure Yes (r : Res U) : Prop where
  ap : ∃ μ, r = .ok (.bl true) μ
theorem Yes.of {r : Res U} (h : wpE r (fun u _ => u = .bl true) (fun _ _ => False)) : Yes r := by
  obtain ⟨a, μ', e, rfl⟩ := wpE.get h
  exact ⟨μ', e⟩
/-! loops by what they walk -/
section
variable {s : Slots} {μ : Mem} {D : Dn} {g : Tgt} {b : FS}
theorem for_rng {m : Nat} (n : Nat) (I : Nat → Slots → Mem → Prop) (hm : m = n) (hn : n < 1000000) (h0 : I 0 s μ)
    (step : ∀ i s μ, i < n → I i s μ → ∃ s1, setT g (.int (i : Int)) s = some s1 ∧ Dg.wpS (b s1 μ) ⟨I (i + 1), D.rt, D.nx, I (i + 1), D.ex⟩) (fin : ∀ s μ, I n s μ → D.nx s μ) : Dg.wpS (sForGo g b fuelF (.rng 0 1 m) 0 s μ) D := by
  subst hm
  refine for_go (fun i s μ => i ≤ m ∧ I i s μ) m hn ⟨by omega, h0⟩ (fun i s μ h => h.1) ?_
  rintro i s μ ⟨hi, h⟩
  rw [item_rng]
  by_cases e : i < m
  · right
    obtain ⟨s1, e1, e2⟩ := step i s μ e h
    refine ⟨_, s1, by rw [if_pos e], by rw [show (0 : Int) + (i : Int) * 1 = (i : Int) by omega]; exact e1, wpS.mono e2 (fun _ _ q => ⟨by omega, q⟩) (fun _ _ q => q) (fun _ _ q => q) (fun _ _ q => ⟨by omega, q⟩) fun _ _ _ q => q⟩
  · left
    have : i = m := by omega
    subst this
    exact ⟨by rw [if_neg e], fin s μ h⟩
theorem for_seq {us : List U} (I : Nat → Slots → Mem → Prop) (hn : us.length < 1000000) (h0 : I 0 s μ)
    (step : ∀ i s μ (h : i < us.length), I i s μ → ∃ s1, setT g us[i] s = some s1 ∧ Dg.wpS (b s1 μ) ⟨I (i + 1), D.rt, D.nx, I (i + 1), D.ex⟩) (fin : ∀ s μ, I us.length s μ → D.nx s μ) : Dg.wpS (sForGo g b fuelF (.seq us) 0 s μ) D := by
  refine for_go (fun i s μ => i ≤ us.length ∧ I i s μ) us.length hn ⟨by omega, h0⟩ (fun i s μ h => h.1) ?_
  rintro i s μ ⟨hi, h⟩
  rw [item_seq]
  by_cases e : i < us.length
  · right
    obtain ⟨s1, e1, e2⟩ := step i s μ e h
    exact ⟨us[i], s1, by rw [List.getElem?_eq_getElem e], e1, wpS.mono e2 (fun _ _ q => ⟨by omega, q⟩) (fun _ _ q => q) (fun _ _ q => q) (fun _ _ q => ⟨by omega, q⟩) fun _ _ _ q => q⟩
  · left
    have : i = us.length := by omega
    subst this
    exact ⟨by rw [List.getElem?_eq_none (by omega)], fin s μ h⟩
theorem for_live {r : Nat} (us : List U) (I : Nat → Slots → Mem → Prop) (hn : us.length < 1000000) (h0 : I 0 s μ) (hc : ∀ i s μ, I i s μ → μ[r]? = some (.lst us))
    (step : ∀ i s μ (h : i < us.length), I i s μ → ∃ s1, setT g us[i] s = some s1 ∧ Dg.wpS (b s1 μ) ⟨I (i + 1), D.rt, D.nx, I (i + 1), D.ex⟩) (fin : ∀ s μ, I us.length s μ → D.nx s μ) : Dg.wpS (sForGo g b fuelF (.live r) 0 s μ) D := by
  refine for_go (fun i s μ => i ≤ us.length ∧ I i s μ) us.length hn ⟨by omega, h0⟩ (fun i s μ h => h.1) ?_
  rintro i s μ ⟨hi, h⟩
  rw [item_live (hc i s μ h)]
  by_cases e : i < us.length
  · right
    obtain ⟨s1, e1, e2⟩ := step i s μ e h
    exact ⟨us[i], s1, by rw [List.getElem?_eq_getElem e], e1, wpS.mono e2 (fun _ _ q => ⟨by omega, q⟩) (fun _ _ q => q) (fun _ _ q => q) (fun _ _ q => ⟨by omega, q⟩) fun _ _ _ q => q⟩
  · left
    have : i = us.length := by omega
    subst this
    exact ⟨by rw [List.getElem?_eq_none (by omega)], fin s μ h⟩
end
section
variable {own : List Nat} {g : Tgt} {t : FT} {e : FE} {s : Slots} {d : Nat} {μ : Mem} {Q : U → Mem → Prop} {E : Str → Mem → Prop}
theorem lc_rng {m : Nat} (n : Nat) (I : Nat → Mem → Prop) (hm : m = n) (hn : n < 1000000) (h0 : I 0 μ)
    (step : ∀ i μ, i < n → I i μ → ∃ s1, setT g (.int (i : Int)) (wipeU s own) = some s1 ∧
      wpE (t s1 μ) (fun b μ3 => if b = true then wpE (e s1 μ3) (fun v μ4 => ∃ acc, μ4[d]? = some (.lst acc) ∧ acc.length < lim ∧ I (i + 1) (μ4.set d (.lst (acc ++ [v])))) (fun _ _ => False) else I (i + 1) μ3) (fun _ _ => False))
    (fin : ∀ μ, I n μ → Q (.ref d) μ) : wpE (lcGo (.rng 0 1 m) own g t e s d fuelF 0 μ) Q E := by
  subst hm
  refine lc_go (fun i μ => i ≤ m ∧ I i μ) m hn ⟨by omega, h0⟩ (fun i μ h => h.1) ?_
  rintro i μ ⟨hi, h⟩
  rw [item_rng]
  by_cases h1 : i < m
  · right
    obtain ⟨s1, e1, e2⟩ := step i μ h1 h
    refine ⟨_, s1, by rw [if_pos h1], by rw [show (0 : Int) + (i : Int) * 1 = (i : Int) by omega]; exact e1, wpE.mono e2 fun b μ3 q => ?_⟩
    cases b with
    | false => exact ⟨by omega, q⟩
    | true => exact wpE.mono q fun v μ4 ⟨acc, a1, a2, a3⟩ => ⟨acc, a1, a2, by omega, a3⟩
  · left
    have : i = m := by omega
    subst this
    exact ⟨by rw [if_neg h1], fin μ h⟩
theorem lc_seq {us : List U} (I : Nat → Mem → Prop) (hn : us.length < 1000000) (h0 : I 0 μ)
    (step : ∀ i μ (h : i < us.length), I i μ → ∃ s1, setT g us[i] (wipeU s own) = some s1 ∧
      wpE (t s1 μ) (fun b μ3 => if b = true then wpE (e s1 μ3) (fun v μ4 => ∃ acc, μ4[d]? = some (.lst acc) ∧ acc.length < lim ∧ I (i + 1) (μ4.set d (.lst (acc ++ [v])))) (fun _ _ => False) else I (i + 1) μ3) (fun _ _ => False))
    (fin : ∀ μ, I us.length μ → Q (.ref d) μ) : wpE (lcGo (.seq us) own g t e s d fuelF 0 μ) Q E := by
  refine lc_go (fun i μ => i ≤ us.length ∧ I i μ) us.length hn ⟨by omega, h0⟩ (fun i μ h => h.1) ?_
  rintro i μ ⟨hi, h⟩
  rw [item_seq]
  by_cases h1 : i < us.length
  · right
    obtain ⟨s1, e1, e2⟩ := step i μ h1 h
    refine ⟨us[i], s1, by rw [List.getElem?_eq_getElem h1], e1, wpE.mono e2 fun b μ3 q => ?_⟩
    cases b with
    | false => exact ⟨by omega, q⟩
    | true => exact wpE.mono q fun v μ4 ⟨acc, a1, a2, a3⟩ => ⟨acc, a1, a2, by omega, a3⟩
  · left
    have : i = us.length := by omega
    subst this
    exact ⟨by rw [List.getElem?_eq_none (by omega)], fin μ h⟩
theorem lc_live {r : Nat} (us : List U) (I : Nat → Mem → Prop) (hn : us.length < 1000000) (h0 : I 0 μ) (hc : ∀ i μ, I i μ → μ[r]? = some (.lst us))
    (step : ∀ i μ (h : i < us.length), I i μ → ∃ s1, setT g us[i] (wipeU s own) = some s1 ∧
      wpE (t s1 μ) (fun b μ3 => if b = true then wpE (e s1 μ3) (fun v μ4 => ∃ acc, μ4[d]? = some (.lst acc) ∧ acc.length < lim ∧ I (i + 1) (μ4.set d (.lst (acc ++ [v])))) (fun _ _ => False) else I (i + 1) μ3) (fun _ _ => False))
    (fin : ∀ μ, I us.length μ → Q (.ref d) μ) : wpE (lcGo (.live r) own g t e s d fuelF 0 μ) Q E := by
  refine lc_go (fun i μ => i ≤ us.length ∧ I i μ) us.length hn ⟨by omega, h0⟩ (fun i μ h => h.1) ?_
  rintro i μ ⟨hi, h⟩
  rw [item_live (hc i μ h)]
  by_cases h1 : i < us.length
  · right
    obtain ⟨s1, e1, e2⟩ := step i μ h1 h
    refine ⟨us[i], s1, by rw [List.getElem?_eq_getElem h1], e1, wpE.mono e2 fun b μ3 q => ?_⟩
    cases b with
    | false => exact ⟨by omega, q⟩
    | true => exact wpE.mono q fun v μ4 ⟨acc, a1, a2, a3⟩ => ⟨acc, a1, a2, by omega, a3⟩
  · left
    have : i = us.length := by omega
    subst this
    exact ⟨by rw [List.getElem?_eq_none (by omega)], fin μ h⟩
end
/-! comprehensions as maps -/
theorem take_snoc {α : Type} {us : List α} {i : Nat} (h : i < us.length) : us.take (i + 1) = us.take i ++ [us[i]] := by
  rw [List.take_succ]; simp [h]
section
variable {own : List Nat} {g : Tgt} {t : FT} {e : FE} {s : Slots} {μ0 : Mem} {Q : U → Mem → Prop} {E : Str → Mem → Prop}
theorem lc_map {us : List U} (f : U → U) (hn : us.length < 1000000)
    (step : ∀ i μ' (h : i < us.length), Fr μ0 μ' → ∃ s1, setT g us[i] (wipeU s own) = some s1 ∧ wpE (e s1 μ') (fun w μ'' => w = f us[i] ∧ Fr μ' μ'') (fun _ _ => False))
    (fin : ∀ μ', Fr μ0 μ' → μ'[μ0.length]? = some (.lst (us.map f)) → Q (.ref μ0.length) μ') : wpE (lcGo (.seq us) own g tAll e s μ0.length fuelF 0 (μ0 ++ [.lst []])) Q E := by
  refine lc_seq (fun i μ' => Fr μ0 μ' ∧ μ'[μ0.length]? = some (.lst ((us.take i).map f))) hn ⟨Fr.refl.snoc, by simp⟩ ?_ ?_
  · rintro i μ1 hi ⟨f1, c1⟩
    obtain ⟨s1, a1, a2⟩ := step i μ1 hi f1
    refine ⟨s1, a1, ?_⟩
    show wpE (e s1 μ1) _ _
    refine wpE.mono a2 ?_
    rintro w μ2 ⟨rfl, f2⟩
    refine ⟨_, f2.at_ _ _ c1, by simp [lim]; omega, (f1.trans f2).put (Nat.le_refl _), ?_⟩
    rw [get_set (f2.at_ _ _ c1), take_snoc hi, List.map_append]
    rfl
  · rintro μ1 ⟨f1, c1⟩
    rw [List.take_length] at c1
    exact fin μ1 f1 c1
theorem lc_mapL {r : Nat} {us : List U} (hr : μ0[r]? = some (.lst us)) (f : U → U) (hn : us.length < 1000000)
    (step : ∀ i μ' (h : i < us.length), Fr μ0 μ' → ∃ s1, setT g us[i] (wipeU s own) = some s1 ∧ wpE (e s1 μ') (fun w μ'' => w = f us[i] ∧ Fr μ' μ'') (fun _ _ => False))
    (fin : ∀ μ', Fr μ0 μ' → μ'[μ0.length]? = some (.lst (us.map f)) → Q (.ref μ0.length) μ') : wpE (lcGo (.live r) own g tAll e s μ0.length fuelF 0 (μ0 ++ [.lst []])) Q E := by
  refine lc_live us (fun i μ' => Fr μ0 μ' ∧ μ'[μ0.length]? = some (.lst ((us.take i).map f))) hn ⟨Fr.refl.snoc, by simp⟩ (fun i μ' h => h.1.at_ _ _ hr) ?_ ?_
  · rintro i μ1 hi ⟨f1, c1⟩
    obtain ⟨s1, a1, a2⟩ := step i μ1 hi f1
    refine ⟨s1, a1, ?_⟩
    show wpE (e s1 μ1) _ _
    refine wpE.mono a2 ?_
    rintro w μ2 ⟨rfl, f2⟩
    refine ⟨_, f2.at_ _ _ c1, by simp [lim]; omega, (f1.trans f2).put (Nat.le_refl _), ?_⟩
    rw [get_set (f2.at_ _ _ c1), take_snoc hi, List.map_append]
    rfl
  · rintro μ1 ⟨f1, c1⟩
    rw [List.take_length] at c1
    exact fin μ1 f1 c1
theorem lc_mapR {m : Nat} (n : Nat) (f : Nat → U) (hm : m = n) (hn : n < 1000000)
    (step : ∀ i μ', i < n → Fr μ0 μ' → ∃ s1, setT g (.int (i : Int)) (wipeU s own) = some s1 ∧ wpE (e s1 μ') (fun w μ'' => w = f i ∧ Fr μ' μ'') (fun _ _ => False))
    (fin : ∀ μ', Fr μ0 μ' → μ'[μ0.length]? = some (.lst ((List.range n).map f)) → Q (.ref μ0.length) μ') : wpE (lcGo (.rng 0 1 m) own g tAll e s μ0.length fuelF 0 (μ0 ++ [.lst []])) Q E := by
  refine lc_rng n (fun i μ' => Fr μ0 μ' ∧ μ'[μ0.length]? = some (.lst ((List.range i).map f))) hm hn ⟨Fr.refl.snoc, by simp⟩ ?_ ?_
  · rintro i μ1 hi ⟨f1, c1⟩
    obtain ⟨s1, a1, a2⟩ := step i μ1 hi f1
    refine ⟨s1, a1, ?_⟩
    show wpE (e s1 μ1) _ _
    refine wpE.mono a2 ?_
    rintro w μ2 ⟨rfl, f2⟩
    refine ⟨_, f2.at_ _ _ c1, by simp [lim]; omega, (f1.trans f2).put (Nat.le_refl _), ?_⟩
    rw [get_set (f2.at_ _ _ c1), List.range_succ]
    simp
  · rintro μ1 ⟨f1, c1⟩
    exact fin μ1 f1 c1
theorem lc_sel {us : List U} (p : U → Bool) (f : U → U) (hn : us.length < 1000000)
    (step : ∀ i μ' (h : i < us.length), Fr μ0 μ' → ∃ s1, setT g us[i] (wipeU s own) = some s1 ∧ wpE (t s1 μ') (fun b μ2 => b = p us[i] ∧ Fr μ' μ2 ∧ (b = true → wpE (e s1 μ2) (fun w μ'' => w = f us[i] ∧ Fr μ2 μ'') (fun _ _ => False))) (fun _ _ => False))
    (fin : ∀ μ', Fr μ0 μ' → μ'[μ0.length]? = some (.lst ((us.filter p).map f)) → Q (.ref μ0.length) μ') : wpE (lcGo (.seq us) own g t e s μ0.length fuelF 0 (μ0 ++ [.lst []])) Q E := by
  refine lc_seq (fun i μ' => Fr μ0 μ' ∧ μ'[μ0.length]? = some (.lst (((us.take i).filter p).map f))) hn ⟨Fr.refl.snoc, by simp⟩ ?_ ?_
  · rintro i μ1 hi ⟨f1, c1⟩
    obtain ⟨s1, a1, a2⟩ := step i μ1 hi f1
    refine ⟨s1, a1, ?_⟩
    have hl : ((us.take i).filter p).length ≤ us.length := Nat.le_trans (List.length_filter_le _ _) (by simp; omega)
    refine wpE.mono a2 ?_
    rintro b μ2 ⟨rfl, f2, h2⟩
    cases hb : p us[i] with
    | false =>
      simp only [Bool.false_eq_true, if_false]
      refine ⟨f1.trans f2, ?_⟩
      rw [f2.at_ _ _ c1, take_snoc hi, List.filter_append, List.map_append]
      simp [hb]
    | true =>
      simp only [if_true]
      refine wpE.mono (h2 hb) ?_
      rintro w μ3 ⟨rfl, f3⟩
      have c3 := f3.at_ _ _ (f2.at_ _ _ c1)
      refine ⟨_, c3, by simp only [List.length_map, lim]; omega, ((f1.trans f2).trans f3).put (Nat.le_refl _), ?_⟩
      rw [get_set c3, take_snoc hi, List.filter_append, List.map_append]
      simp [hb]
  · rintro μ1 ⟨f1, c1⟩
    rw [List.take_length] at c1
    exact fin μ1 f1 c1
theorem lc_selL {r : Nat} {us : List U} (hr : μ0[r]? = some (.lst us)) (p : U → Bool) (f : U → U) (hn : us.length < 1000000)
    (step : ∀ i μ' (h : i < us.length), Fr μ0 μ' → ∃ s1, setT g us[i] (wipeU s own) = some s1 ∧ wpE (t s1 μ') (fun b μ2 => b = p us[i] ∧ Fr μ' μ2 ∧ (b = true → wpE (e s1 μ2) (fun w μ'' => w = f us[i] ∧ Fr μ2 μ'') (fun _ _ => False))) (fun _ _ => False))
    (fin : ∀ μ', Fr μ0 μ' → μ'[μ0.length]? = some (.lst ((us.filter p).map f)) → Q (.ref μ0.length) μ') : wpE (lcGo (.live r) own g t e s μ0.length fuelF 0 (μ0 ++ [.lst []])) Q E := by
  refine lc_live us (fun i μ' => Fr μ0 μ' ∧ μ'[μ0.length]? = some (.lst (((us.take i).filter p).map f))) hn ⟨Fr.refl.snoc, by simp⟩ (fun i μ' h => h.1.at_ _ _ hr) ?_ ?_
  · rintro i μ1 hi ⟨f1, c1⟩
    obtain ⟨s1, a1, a2⟩ := step i μ1 hi f1
    refine ⟨s1, a1, ?_⟩
    have hl : ((us.take i).filter p).length ≤ us.length := Nat.le_trans (List.length_filter_le _ _) (by simp; omega)
    refine wpE.mono a2 ?_
    rintro b μ2 ⟨rfl, f2, h2⟩
    cases hb : p us[i] with
    | false =>
      simp only [Bool.false_eq_true, if_false]
      refine ⟨f1.trans f2, ?_⟩
      rw [f2.at_ _ _ c1, take_snoc hi, List.filter_append, List.map_append]
      simp [hb]
    | true =>
      simp only [if_true]
      refine wpE.mono (h2 hb) ?_
      rintro w μ3 ⟨rfl, f3⟩
      have c3 := f3.at_ _ _ (f2.at_ _ _ c1)
      refine ⟨_, c3, by simp only [List.length_map, lim]; omega, ((f1.trans f2).trans f3).put (Nat.le_refl _), ?_⟩
      rw [get_set c3, take_snoc hi, List.filter_append, List.map_append]
      simp [hb]
  · rintro μ1 ⟨f1, c1⟩
    rw [List.take_length] at c1
    exact fin μ1 f1 c1
end
theorem blsU_map {α : Type} (f : α → Bool) : ∀ us : List α, blsU (us.map fun u => U.bl (f u)) = some (us.map f)
  | [] => rfl
  | u :: us => by simp [blsU, blsU_map f us]
theorem w_allL {μ : Mem} {Q : U → Mem → Prop} {E : Str → Mem → Prop} {r : Nat} {us : List U} {bs : List Bool} (h : μ[r]? = some (.lst us)) (e : blsU us = some bs) : wpE (bAll [.ref r] μ) Q E = Q (.bl (bs.all id)) μ := by
  have : bAll [.ref r] μ = .ok (.bl (bs.all id)) μ := by unfold bAll; simp only [lstU_L h, Option.bind_some, e]
  rw [this]; rfl
theorem w_anyL {μ : Mem} {Q : U → Mem → Prop} {E : Str → Mem → Prop} {r : Nat} {us : List U} {bs : List Bool} (h : μ[r]? = some (.lst us)) (e : blsU us = some bs) : wpE (bAny [.ref r] μ) Q E = Q (.bl (bs.any id)) μ := by
  have : bAny [.ref r] μ = .ok (.bl (bs.any id)) μ := by unfold bAny; simp only [lstU_L h, Option.bind_some, e]
  rw [this]; rfl
theorem intsU_map {α : Type} (f : α → Int) : ∀ us : List α, intsU (us.map fun u => U.int (f u)) = some (us.map f)
  | [] => rfl
  | u :: us => by simp [intsU, intsU_map f us]
theorem w_sumL {μ : Mem} {Q : U → Mem → Prop} {E : Str → Mem → Prop} {r : Nat} {us : List U} {bs : List Int} (h : μ[r]? = some (.lst us)) (e : intsU us = some bs) : wpE (bSum [.ref r] μ) Q E = Q (.int bs.sum) μ := by
  have : bSum [.ref r] μ = .ok (.int bs.sum) μ := by unfold bSum; simp only [lstU_L h, Option.bind_some, e]
  rw [this]; rfl
theorem w_listL {μ : Mem} {Q : U → Mem → Prop} {E : Str → Mem → Prop} {r : Nat} {us : List U} (h : μ[r]? = some (.lst us)) : wpE (bList [.ref r] μ) Q E = Q (.ref μ.length) (μ ++ [.lst us]) := by
  have : bList [.ref r] μ = .ok (.ref μ.length) (μ ++ [.lst us]) := by unfold bList seqU; simp only [h]
  rw [this]; rfl
theorem w_listT {μ : Mem} {Q : U → Mem → Prop} {E : Str → Mem → Prop} {us : List U} : wpE (bList [.tup us] μ) Q E = Q (.ref μ.length) (μ ++ [.lst us]) := propext ⟨fun h => h, fun h => h⟩
theorem w_addT {μ : Mem} {Q : U → Mem → Prop} {E : Str → Mem → Prop} {us ws : List U} (h : us.length + ws.length ≤ lim) : wpE (uAdd (.tup us) (.tup ws) μ) Q E = Q (.tup (us ++ ws)) μ := by
  cases us with
  | nil => rfl
  | cons u us =>
    have : uAdd (.tup (u :: us)) (.tup ws) μ = .ok (.tup (u :: us ++ ws)) μ := by unfold uAdd; simp only [h, if_true]
    rw [this]; rfl
theorem w_mulT {μ : Mem} {Q : U → Mem → Prop} {E : Str → Mem → Prop} {us : List U} {n : Int} (h : -1000 ≤ n ∧ n ≤ 1000 ∧ us.length ≤ 1000) : wpE (uMul (.tup us) (.int n) μ) Q E = Q (.tup (repU n.toNat us)) μ := by
  have : uMul (.tup us) (.int n) μ = .ok (.tup (repU n.toNat us)) μ := by unfold uMul; simp only [h, and_self, if_true]
  rw [this]; rfl
theorem w_addL' {μ : Mem} {a b : Nat} {xs ys : List U} {Q : U → Mem → Prop} {E : Str → Mem → Prop} (h1 : μ[a]? = some (.lst xs)) (h2 : μ[b]? = some (.lst ys)) (hl : xs.length + ys.length ≤ lim) : wpE (uAdd (.ref a) (.ref b) μ) Q E = Q (.ref μ.length) (μ ++ [.lst (xs ++ ys)]) := by
  have : uAdd (.ref a) (.ref b) μ = .ok (.ref μ.length) (μ ++ [.lst (xs ++ ys)]) := by unfold uAdd; simp only [h1, h2, hl, if_true]
  rw [this]; rfl
theorem tru_T {μ : Mem} {us : List U} : truU μ (.tup us) = some (!us.isEmpty) := rfl
theorem tru_I {μ : Mem} {i : Int} : truU μ (.int i) = some (i != 0) := rfl
/-! dicts -/
section
variable {s : Slots} {μ : Mem} {Q : U → Mem → Prop} {E : Str → Mem → Prop} {D : Dn}
theorem w_getE {d a b : FE} : wpE (fGet d a b s μ) Q E = wpE (d s μ) (fun x μ1 => (∃ kus0, rdU μ1 x = some kus0) ∧ wpE (a s μ1) (fun y μ2 => wpE (b s μ2) (fun z μ3 => ∃ kus k, rdU μ3 x = some kus ∧ keyU y = some k ∧ Q ((valU kus k).getD z) μ3) E) E) E := by
  unfold fGet; rw [w_bind]; congr 1; funext x μ1
  cases rdU μ1 x with
  | none => simp [wpE]
  | some k0 =>
    simp only [w_bind, Option.some.injEq, exists_eq', true_and]
    congr 1; funext y μ2; congr 1; funext z μ3
    cases h1 : rdU μ3 x with
    | none => simp [wpE]
    | some kus =>
      cases h2 : keyU y with
      | none => simp [wpE]
      | some k => simp [wpE]
theorem rd_D {r : Nat} {kus : List (Key × U)} (h : μ[r]? = some (.dct kus)) : rdU μ (.ref r) = some kus := by unfold rdU; simp only [h]
theorem rd_F {r : Nat} {kus : List (Key × U)} (h : μ[r]? = some (.fdc kus)) : rdU μ (.ref r) = some kus := by unfold rdU; simp only [h]
theorem stU_DI {r : Nat} {kvs : List (Key × U)} {x : Int} {u : U} (h : μ[r]? = some (.dct kvs)) (hl : kvs.length < lim) : stU (.ref r) (.int x) u μ = some (μ.set r (.dct (putU kvs (.inl x) u))) := by
  unfold stU; simp only [h, keyU, hl, if_true]
theorem w_ixDI {r : Nat} {kvs : List (Key × U)} {x : Int} (h : μ[r]? = some (.dct kvs)) : wpE (ixU (.ref r) (.int x) μ) Q E = ∃ a, valU kvs (.inl x) = some a ∧ Q a μ := by
  have : ixU (.ref r) (.int x) μ = opt (valU kvs (.inl x)) μ := by
    unfold ixU dctU
    simp only [h, keyU]
  rw [this, w_res]
def lkD (r : Nat) (D : Dn) : Dn := ⟨fun s μ => ∃ kus, μ[r]? = some (.fdc kus) ∧ D.nx s (μ.set r (.dct kus)), fun u μ => ∃ kus, μ[r]? = some (.fdc kus) ∧ D.rt u (μ.set r (.dct kus)),
  fun s μ => ∃ kus, μ[r]? = some (.fdc kus) ∧ D.bk s (μ.set r (.dct kus)), fun s μ => ∃ kus, μ[r]? = some (.fdc kus) ∧ D.ct s (μ.set r (.dct kus)), D.ex⟩
theorem ulM_F {r : Nat} {kus : List (Key × U)} (h : μ[r]? = some (.fdc kus)) : ulM r μ = some (μ.set r (.dct kus)) := by unfold ulM; simp only [h, ulC]
theorem s_lockD {e : FE} {b : FS} {r : Nat} {μ' : Mem} {kus : List (Key × U)} (he : e s μ = .ok (.ref r) μ') (h : μ[r]? = some (.dct kus)) (w : Dg.wpS (b s (μ.set r (.fdc kus))) (lkD r D)) : Dg.wpS (sLock e b s μ) D := by
  unfold sLock
  rw [he]
  simp only [h, lkC]
  cases eb : b s (μ.set r (.fdc kus)) with
  | nx s1 m1 => rw [eb] at w; obtain ⟨k, c, q⟩ := w; simp only [ulO, ulM_F c]; exact q
  | rt s1 m1 => rw [eb] at w; obtain ⟨k, c, q⟩ := w; simp only [ulO, ulM_F c]; exact q
  | bk s1 m1 => rw [eb] at w; obtain ⟨k, c, q⟩ := w; simp only [ulO, ulM_F c]; exact q
  | ct s1 m1 => rw [eb] at w; obtain ⟨k, c, q⟩ := w; simp only [ulO, ulM_F c]; exact q
  | ex c s1 m1 => rw [eb] at w; exact w
  | bad => rw [eb] at w; exact w
theorem w_lockD {e : FE} {b : FE} {r : Nat} {μ' : Mem} {kus : List (Key × U)} (he : e s μ = .ok (.ref r) μ') (h : μ[r]? = some (.dct kus)) (w : wpE (b s (μ.set r (.fdc kus))) (fun u μ => ∃ kus, μ[r]? = some (.fdc kus) ∧ Q u (μ.set r (.dct kus))) E) : wpE (fLock e b s μ) Q E := by
  unfold fLock
  rw [he]
  simp only [h, lkC]
  cases eb : b s (μ.set r (.fdc kus)) with
  | ok s1 m1 => rw [eb] at w; obtain ⟨k, c, q⟩ := w; simp only [ulR, ulM_F c]; exact q
  | ex c m1 => rw [eb] at w; exact w
  | bad => rw [eb] at w; exact w
theorem w_items {a : FE} {Q : IterU → Mem → Prop} : wpE (Dg.iItems a s μ) Q E = wpE (a s μ) (fun u μ1 => ∃ kus, fdcU μ1 u = some kus ∧ ksOk kus = true ∧ Q (.seq (itemsU kus)) μ1) E := by
  unfold Dg.iItems; rw [w_bind]; congr 1; funext u μ1
  cases fdcU μ1 u with
  | none => simp [wpE]
  | some kus =>
    simp only [Option.some.injEq, exists_eq_left']
    split
    · rename_i h; simp [h, wpE]
    · rename_i h; simp [h, wpE]
theorem w_keys {a : FE} {Q : IterU → Mem → Prop} : wpE (Dg.iKeys a s μ) Q E = wpE (a s μ) (fun u μ1 => ∃ kus, fdcU μ1 u = some kus ∧ ksOk kus = true ∧ Q (.seq (keysU kus)) μ1) E := by
  unfold Dg.iKeys; rw [w_bind]; congr 1; funext u μ1
  cases fdcU μ1 u with
  | none => simp [wpE]
  | some kus =>
    simp only [Option.some.injEq, exists_eq_left']
    split
    · rename_i h; simp [h, wpE]
    · rename_i h; simp [h, wpE]
theorem fdc_F {r : Nat} {kus : List (Key × U)} (h : μ[r]? = some (.fdc kus)) : fdcU μ (.ref r) = some kus := by unfold fdcU; simp only [h]
end
theorem Fr.unlock {μ μ' : Mem} {r : Nat} {kus : List (Key × U)} (h : μ[r]? = some (.dct kus)) (f : Fr (μ.set r (.fdc kus)) μ') : Fr μ (μ'.set r (.dct kus)) := by
  have hl := get_lt h
  have hr : μ'[r]? = some (.fdc kus) := f.at_ _ _ (get_set h)
  refine ⟨by have := f.le; simp at this ⊢; omega, fun i c hi => ?_⟩
  by_cases e : i = r
  · subst e
    rw [h] at hi
    cases hi
    exact get_set hr
  · exact get_set_ne (f.at_ _ _ (get_set_ne hi (Ne.symm e))) (Ne.symm e)
theorem atI_toNat {α : Type} {xs : List α} {i : Int} (h0 : 0 ≤ i) (h : i.toNat < xs.length) : atI xs i = some xs[i.toNat] := by
  obtain ⟨n, rfl⟩ := Int.eq_ofNat_of_zero_le h0
  rw [Dg.atI_nat]
  simp only [Int.toNat_natCast] at h ⊢
  exact List.getElem?_eq_getElem h
theorem w_index {μ : Mem} {Q : U → Mem → Prop} {E : Str → Mem → Prop} {u w : U} {us : List U} {vs : List V} {y : V} {j : Nat} (h : lstU μ u = some us) (e1 : flUs us = some vs) (e2 : flU w = some y) (e3 : idxV y vs = some j) : wpE (gIndex u [w] μ) Q E = Q (.int (j : Nat)) μ := by
  have : gIndex u [w] μ = .ok (.int (j : Nat)) μ := by unfold gIndex; simp only [h, e1, e2, e3]
  rw [this]; rfl
theorem cutU_take {α : Type} {us : List α} {n : Int} (h : 0 ≤ n) : cutU us none (some n) = us.take n.toNat := by
  unfold cutU
  obtain ⟨m, rfl⟩ := Int.eq_ofNat_of_zero_le h
  show (us.drop 0).take (HT.sIx us.length us.length (some (m : Int)) - 0) = _
  rw [HT.sIx_nat]
  simp only [List.drop_zero, Nat.sub_zero, Int.toNat_natCast]
  rcases Nat.le_total m us.length with h | h
  · rw [Nat.min_eq_left h]
  · rw [Nat.min_eq_right h, List.take_of_length_le (Nat.le_refl _), List.take_of_length_le h]
theorem cutU_drop {α : Type} {us : List α} {n : Int} (h : 0 ≤ n) : cutU us (some n) none = us.drop n.toNat := by
  unfold cutU
  obtain ⟨m, rfl⟩ := Int.eq_ofNat_of_zero_le h
  rw [HT.sIx_nat]
  show (us.drop (min m us.length)).take (us.length - min m us.length) = _
  simp only [Int.toNat_natCast]
  rcases Nat.le_total m us.length with h | h
  · rw [Nat.min_eq_left h, List.take_of_length_le (by simp)]
  · rw [Nat.min_eq_right h, List.drop_of_length_le (Nat.le_refl _), List.drop_of_length_le h]; simp
theorem w_geXI {i j : Int} {μ : Mem} {Q : U → Mem → Prop} {E : Str → Mem → Prop} : wpE (uGeX (.int i) (.int j) μ) Q E = Q (.bl (decide (j ≤ i))) μ := propext ⟨fun h => h, fun h => h⟩
theorem w_geXP {a b c d : Int} {μ : Mem} {Q : U → Mem → Prop} {E : Str → Mem → Prop} : wpE (uGeX (.tup [.int a, .int b]) (.tup [.int c, .int d]) μ) Q E = Q (.bl (!ltPr (a, b) (c, d))) μ := propext ⟨fun h => h, fun h => h⟩
theorem w_lz {ma : FA} {s : Slots} {μ : Mem} {Q : U → Mem → Prop} {E : Str → Mem → Prop} : wpE (fLz ma s μ) Q E = wpE (ma s μ) (fun us μ1 => ∃ xs ys, us = [.tup xs, .tup ys] ∧ Q (.ref μ1.length) (μ1 ++ [.lst (List.zipWith (fun x y => .tup [x, y]) xs ys)])) E := by
  unfold fLz; rw [w_bind]; congr 1; funext us μ1
  apply propext
  constructor
  · intro h
    split at h
    · rename_i xs ys; exact ⟨xs, ys, rfl, h⟩
    · exact h.elim
  · rintro ⟨xs, ys, rfl, q⟩; exact q
local macro_rules | `(tactic| walk_at "go") => `(tactic| simp (config := {decide := true}) only [w_run, w_geXI, w_geXP, w_lz, w_op, w_isi, Dg.wipeU, w_powI, w_intB, w_sl, w_oNone, w_oSome, w_slT, w_slF, w_ixF, w_lenF, w_abs, w_max2, w_min2, w_fdivI, w_neg, w_andE, w_orE, w_notE, w_chain, w_c, w_var, w_call, w_def, w_anil, w_acons, w_tup, w_lst, w_int, w_intB, w_lenT, w_addI, w_subI, w_modI, w_mulI, w_ltI, w_leI, w_gtI, w_geI, w_eq, w_ne, w_ixT, w_if, w_nt, w_an, w_or, w_all, w_tstB, w_tst, w_app, w_lc, w_for, w_iseqT, w_rg1, w_rev1, w_d0, Dg.eq_str, Dg.eq_int, s_seq, s_next, s_brk, s_cnt, s_expr, s_ret, s_retN, s_if, w_getE, w_items, w_keys, w_fmt, w_js0, w_js, s_asg1, s_store, s_tryAs, s_try, w_isX, s_raise, List.map_cons, List.map_nil, List.cons_append, List.nil_append, List.length_cons, List.length_nil, List.replicate_succ, List.replicate_zero, Nat.add_sub_cancel, Nat.sub_self, Nat.sub_zero, Nat.reduceAdd, Nat.reduceSub, Nat.zero_add, List.set_cons_succ, List.set_cons_zero, List.getElem?_cons_zero, List.getElem?_cons_succ, Option.some.injEq, exists_eq_left', exists_eq_left, exists_eq_right', U.bl.injEq, U.int.injEq, U.ref.injEq, U.str.injEq, atI_0, atI_1, atI_2, atI_3, atI_4, atI_5, if_true, if_false, true_and, and_true, decide_true, decide_false, Bool.not_true, Bool.not_false, reduceCtorEq, ite_true, ite_false, decide_eq_true_eq, Bool.true_eq_false, Bool.false_eq_true])
/-! terms as trees -/
def pr (p : Str × U) : U := .tup [.str p.1, p.2]
inductive Hd where
  | z (t : Str)
  | x (t : Str) (e : U)
  | seq
  | set (x : U)
  | wh
  | blk (x : U)
  | dd
  | iff
  | nw (x : U)
  | cal (x : U) (ks : List Str)
  | prc (x qs : U) (r : Str)
  | op (t : Str)
inductive T where
  | nd (h : Hd) (ps : List T)
def bld : Hd → List U → U
  | .z t, _ => .tup [.str t]
  | .x t e, _ => .tup [.str t, e]
  | .seq, ps => .tup (.str "seq" :: ps)
  | .set x, ps => .tup (.str "set" :: x :: ps)
  | .wh, ps => .tup (.str "while" :: ps)
  | .blk x, ps => .tup (.str "block" :: x :: ps)
  | .dd, ps => .tup (.str "do" :: ps)
  | .iff, ps => .tup (.str "if" :: ps)
  | .nw x, ps => .tup (.str "new" :: x :: ps)
  | .cal x ks, ps => .tup [.str "call", x, .tup ((ks.zip ps).map pr)]
  | .prc x qs r, ps => .tup (.str "proc" :: x :: qs :: .str r :: ps)
  | .op t, ps => .tup (.str t :: ps)
def ar : Hd → Nat
  | .z _ => 0
  | .x _ _ => 0
  | .seq => 2
  | .set _ => 1
  | .wh => 2
  | .blk _ => 1
  | .dd => 2
  | .iff => 3
  | .nw _ => 2
  | .cal _ ks => ks.length
  | .prc _ _ _ => 2
  | .op _ => 2
def smU (u : U) : Prop := pd u = true ∧ dp u ≤ 2
def hok : Hd → Prop
  | .z t => t ∈ (["skip", "stop", "fault"] : List Str)
  | .x t e => t ∈ (["exit", "num", "read"] : List Str) ∧ smU e
  | .set x => smU x
  | .blk x => smU x
  | .nw x => smU x
  | .cal x ks => smU x ∧ ks.length ≤ 2
  | .prc x qs _ => smU x ∧ smU qs
  | .op t => t ∈ (["add", "sub", "mul", "equal", "less"] : List Str)
  | _ => True
def isSq : T → Bool
  | .nd .seq _ => true
  | _ => false
def sqk : Hd → List T → Prop
  | .seq, ps => ∃ a b, ps = [a, b] ∧ isSq b = false
  | _, _ => True
mutual
def toU : T → U
  | .nd h ps => bld h (toUs ps)
def toUs : List T → List U
  | [] => []
  | t :: ts => toU t :: toUs ts
end
mutual
def ok : T → Prop
  | .nd h ps => hok h ∧ ps.length = ar h ∧ sqk h ps ∧ oks ps
def oks : List T → Prop
  | [] => True
  | t :: ts => ok t ∧ oks ts
end
mutual
def pre : T → List T
  | .nd h ps => .nd h ps :: pres ps
def pres : List T → List T
  | [] => []
  | t :: ts => pre t ++ pres ts
end
mutual
def size : T → Nat
  | .nd _ ps => 1 + sizes ps
def sizes : List T → Nat
  | [] => 0
  | t :: ts => size t + sizes ts
end
def rowT (a : T) : T → T
  | .nd .seq [x, y] => .nd .seq [rowT a x, y]
  | b => .nd .seq [a, b]
def mkT : Hd → List T → T
  | .seq, [a, b] => rowT a b
  | h, ps => .nd h ps
mutual
def put (o : T) : T → Nat → T
  | .nd h ps, n => if n = 0 then o else mkT h (puts o ps (n - 1))
def puts (o : T) : List T → Nat → List T
  | [], _ => []
  | t :: ts, n => if n < size t then put o t n :: ts else t :: puts o ts (n - size t)
end
mutual
def bt (N : Nat) (o : T) : T → Nat → T
  | .nd h ps, n => if n = N then o else mkT h (bts N o ps (n + 1))
def bts (N : Nat) (o : T) : List T → Nat → List T
  | [], _ => []
  | t :: ts, n => bt N o t n :: bts N o ts (n + size t)
end
theorem toUs_map : ∀ ts : List T, toUs ts = ts.map toU
  | [] => rfl
  | t :: ts => by simp [toUs, toUs_map ts]
theorem oks_iff : ∀ {ts : List T}, oks ts ↔ ∀ t ∈ ts, ok t
  | [] => by simp [oks]
  | t :: ts => by simp [oks, oks_iff (ts := ts)]
theorem size_pos {t : T} : 0 < size t := by cases t; simp [size]; omega
mutual
theorem pre_len : ∀ t : T, (pre t).length = size t
  | .nd h ps => by simp [pre, size, pres_len ps]; omega
theorem pres_len : ∀ ts : List T, (pres ts).length = sizes ts
  | [] => rfl
  | t :: ts => by simp [pres, sizes, pre_len t, pres_len ts]
end
theorem rowT_seq {a x y : T} : rowT a (.nd .seq [x, y]) = .nd .seq [rowT a x, y] := by simp [rowT]
theorem rowT_ns {a b : T} (h : isSq b = false) : rowT a b = .nd .seq [a, b] := by
  unfold rowT
  split
  · simp [isSq] at h
  · rfl
theorem mkT_ok {h : Hd} {ps : List T} (s : sqk h ps) : mkT h ps = .nd h ps := by
  cases h with
  | seq => obtain ⟨a, b, rfl, hb⟩ := s; exact rowT_ns hb
  | _ => simp [mkT]
theorem ok_sq {x : T} (h : ok x) (s : isSq x = true) : ∃ a b, x = .nd .seq [a, b] ∧ ok a ∧ ok b ∧ isSq b = false := by
  cases x with
  | nd h0 ps =>
    cases h0 with
    | seq =>
      obtain ⟨_, _, ⟨a, b, rfl, hb⟩, o⟩ := h
      exact ⟨a, b, rfl, o.1, o.2.1, hb⟩
    | _ => simp [isSq] at s
theorem rowT_all {a : T} (ha : ok a) : ∀ (n : Nat) (b : T), size b ≤ n → ok b → ok (rowT a b) ∧ size (rowT a b) = size a + size b + 1 := by
  intro n
  induction n with
  | zero => intro b h; have := size_pos (t := b); omega
  | succ n ih =>
    intro b hn hb
    cases e : isSq b with
    | false =>
      rw [rowT_ns e]
      exact ⟨⟨trivial, rfl, ⟨a, b, rfl, e⟩, ha, hb, trivial⟩, by simp [size, sizes]; omega⟩
    | true =>
      obtain ⟨x, y, rfl, ox, oy, hy⟩ := ok_sq hb e
      rw [rowT_seq]
      simp only [size, sizes] at hn ⊢
      obtain ⟨i1, i2⟩ := ih x (by omega) ox
      exact ⟨⟨trivial, rfl, ⟨_, y, rfl, hy⟩, i1, oy, trivial⟩, by omega⟩
theorem mkT_all {h : Hd} {ps : List T} (a : hok h) (b : ps.length = ar h) (c : oks ps) : ok (mkT h ps) ∧ size (mkT h ps) = 1 + sizes ps := by
  cases h with
  | seq =>
    match ps, b with
    | [x, y], _ =>
      obtain ⟨r1, r2⟩ := rowT_all c.1 _ y (Nat.le_refl _) c.2.1
      exact ⟨r1, by simp only [mkT, r2, sizes]; omega⟩
  | _ => exact ⟨⟨a, b, trivial, c⟩, by simp [mkT, size]⟩
theorem puts_len (o : T) : ∀ (ts : List T) (n : Nat), (puts o ts n).length = ts.length
  | [], _ => rfl
  | t :: ts, n => by unfold puts; split <;> simp [puts_len o ts]
theorem bts_len (N : Nat) (o : T) : ∀ (ts : List T) (n : Nat), (bts N o ts n).length = ts.length
  | [], _ => rfl
  | t :: ts, n => by simp [bts, bts_len N o ts]
mutual
theorem put_all {o : T} (ho : ok o) : ∀ {t : T} {n : Nat}, ok t → ok (put o t n) ∧ size (put o t n) ≤ size t + size o
  | .nd h ps, n => by
    intro ht
    unfold put
    split
    · exact ⟨ho, by omega⟩
    · obtain ⟨a, b, c, d⟩ := ht
      obtain ⟨i1, i2⟩ := puts_all ho (ts := ps) (n := n - 1) d
      obtain ⟨j1, j2⟩ := mkT_all a (by rw [puts_len]; exact b) i1
      exact ⟨j1, by rw [j2]; simp only [size]; omega⟩
theorem puts_all {o : T} (ho : ok o) : ∀ {ts : List T} {n : Nat}, oks ts → oks (puts o ts n) ∧ sizes (puts o ts n) ≤ sizes ts + size o
  | [], n => by simp [puts, oks, sizes]
  | t :: ts, n => by
    intro h
    unfold puts
    split
    · obtain ⟨i1, i2⟩ := put_all ho (t := t) (n := n) h.1
      exact ⟨⟨i1, h.2⟩, by simp only [sizes]; omega⟩
    · obtain ⟨i1, i2⟩ := puts_all ho (ts := ts) (n := n - size t) h.2
      exact ⟨⟨h.1, i1⟩, by simp only [sizes]; omega⟩
end
mutual
theorem bt_out {N : Nat} {o : T} : ∀ {t : T} {n : Nat}, ok t → (N < n ∨ n + size t ≤ N) → bt N o t n = t
  | .nd h ps, n => by
    intro ht hn
    have := size_pos (t := .nd h ps)
    unfold bt
    rw [if_neg (by omega)]
    obtain ⟨a, b, c, d⟩ := ht
    simp only [size] at hn
    rw [bts_out d (by omega)]
    exact mkT_ok c
theorem bts_out {N : Nat} {o : T} : ∀ {ts : List T} {n : Nat}, oks ts → (N < n ∨ n + sizes ts ≤ N) → bts N o ts n = ts
  | [], n => fun _ _ => rfl
  | t :: ts, n => by
    intro h hn
    simp only [sizes] at hn
    unfold bts
    rw [bt_out h.1 (by omega), bts_out h.2 (by omega)]
end
mutual
theorem bt_in {N : Nat} {o : T} : ∀ {t : T} {n : Nat}, ok t → n ≤ N → N < n + size t → bt N o t n = put o t (N - n)
  | .nd h ps, n => by
    intro ht h1 h2
    unfold bt put
    by_cases e : n = N
    · rw [if_pos e, if_pos (by omega)]
    · rw [if_neg e, if_neg (by omega)]
      simp only [size] at h2
      rw [bts_in ht.2.2.2 (by omega) (by omega)]
      congr 2 <;> omega
theorem bts_in {N : Nat} {o : T} : ∀ {ts : List T} {n : Nat}, oks ts → n ≤ N → N < n + sizes ts → bts N o ts n = puts o ts (N - n)
  | [], n => by simp [sizes]; omega
  | t :: ts, n => by
    intro h h1 h2
    simp only [sizes] at h2
    unfold bts puts
    by_cases e : N < n + size t
    · rw [if_pos (by omega), bt_in h.1 h1 e, bts_out h.2 (by omega)]
    · rw [if_neg (by omega), bt_out h.1 (by omega), bts_in h.2 (by omega) (by omega)]
      congr 2
      omega
end
mutual
theorem bt_ok {N : Nat} {o : T} (ho : ok o) : ∀ {t : T} {n : Nat}, ok t → ok (bt N o t n)
  | .nd h ps, n => by
    intro ht
    unfold bt
    split
    · exact ho
    · exact (mkT_all ht.1 (by rw [bts_len]; exact ht.2.1) (bts_ok ho ht.2.2.2)).1
theorem bts_ok {N : Nat} {o : T} (ho : ok o) : ∀ {ts : List T} {n : Nat}, oks ts → oks (bts N o ts n)
  | [], n => fun _ => trivial
  | t :: ts, n => fun h => ⟨bt_ok ho h.1, bts_ok ho h.2⟩
end
mutual
theorem put_self : ∀ {t u : T} {n : Nat}, ok t → (pre t)[n]? = some u → put u t n = t
  | .nd h ps, u, n => by
    intro ht hu
    unfold put
    by_cases e : n = 0
    · subst e; simp [pre] at hu; simp [hu]
    · rw [if_neg e]
      obtain ⟨m, rfl⟩ : ∃ m, n = m + 1 := ⟨n - 1, by omega⟩
      simp only [pre, List.getElem?_cons_succ] at hu
      rw [Nat.add_sub_cancel, puts_self ht.2.2.2 hu]
      exact mkT_ok ht.2.2.1
theorem puts_self : ∀ {ts : List T} {u : T} {n : Nat}, oks ts → (pres ts)[n]? = some u → puts u ts n = ts
  | [], u, n => by simp [pres]
  | t :: ts, u, n => by
    intro h hu
    unfold puts
    simp only [pres] at hu
    by_cases e : n < size t
    · rw [if_pos e, put_self h.1 (by rw [List.getElem?_append_left (by rw [pre_len]; exact e)] at hu; exact hu)]
    · rw [if_neg e, puts_self h.2 (by rw [List.getElem?_append_right (by rw [pre_len]; omega), pre_len] at hu; exact hu)]
end
/-- a step of the rebuilding -/
def bst (N : Nat) (o : T) (x : T × Nat) (s : List T) : List T :=
  match x.1 with
  | .nd h ps => (if x.2 = N then o else mkT h (s.take ps.length)) :: s.drop ps.length
mutual
theorem bt_fold {N : Nat} {o : T} : ∀ (t : T) (n : Nat) (s : List T), ((pre t).zipIdx n).foldr (bst N o) s = bt N o t n :: s
  | .nd h ps, n, s => by
    simp only [pre, List.zipIdx_cons, List.foldr_cons, bts_fold ps (n + 1) s]
    simp [bst, bt, ← bts_len N o ps (n + 1)]
theorem bts_fold {N : Nat} {o : T} : ∀ (ts : List T) (n : Nat) (s : List T), ((pres ts).zipIdx n).foldr (bst N o) s = bts N o ts n ++ s
  | [], n, s => by simp [pres, bts]
  | t :: ts, n, s => by
    simp only [pres, List.zipIdx_append, List.foldr_append, pre_len, bts]
    rw [bts_fold ts (n + size t) s, bt_fold t n]
    rfl
end
mutual
theorem pre_ok : ∀ {t : T}, ok t → ∀ u ∈ pre t, ok u ∧ size u ≤ size t
  | .nd h ps => by
    intro ht u hu
    simp only [pre, List.mem_cons] at hu
    rcases hu with rfl | hu
    · exact ⟨ht, Nat.le_refl _⟩
    · obtain ⟨a, b⟩ := pres_ok ht.2.2.2 u hu
      exact ⟨a, by simp only [size]; omega⟩
theorem pres_ok : ∀ {ts : List T}, oks ts → ∀ u ∈ pres ts, ok u ∧ size u ≤ sizes ts
  | [] => by simp [pres]
  | t :: ts => by
    intro h u hu
    simp only [pres, List.mem_append] at hu
    simp only [sizes]
    rcases hu with hu | hu
    · obtain ⟨a, b⟩ := pre_ok h.1 u hu; exact ⟨a, by omega⟩
    · obtain ⟨a, b⟩ := pres_ok h.2 u hu; exact ⟨a, by omega⟩
end
theorem oks_mem {ts : List T} (h : oks ts) : ∀ t ∈ ts, ok t := oks_iff.mp h
theorem sizes_mem : ∀ {ts : List T} {t : T}, t ∈ ts → size t ≤ sizes ts
  | t' :: ts, t, h => by
    simp only [sizes]
    rcases List.mem_cons.mp h with rfl | h
    · omega
    · have := sizes_mem h; omega
def nsq (u : U) : Prop := ∃ (t : Str) (r : List U), u = .tup (.str t :: r) ∧ t ≠ "seq"
def rowU (h : U) (ss : List U) : U := ss.foldl (fun a s => .tup [.str "seq", a, s]) h
theorem rowU_snoc {h s : U} {ss : List U} : rowU h (ss ++ [s]) = .tup [.str "seq", rowU h ss, s] := by simp [rowU]
theorem ns_of {t : Str} {l : List Str} (m : t ∈ l) (h : l.all (fun x => decide (x ≠ "seq")) = true) : t ≠ "seq" := by
  have := List.all_eq_true.mp h t m
  simpa using this
theorem T_nsq {b : T} (h : ok b) (e : isSq b = false) : nsq (toU b) := by
  cases b with
  | nd h0 ps =>
    cases h0 with
    | z t => exact ⟨t, _, rfl, ns_of h.1 (by decide)⟩
    | x t u => exact ⟨t, _, rfl, ns_of h.1.1 (by decide)⟩
    | op t => exact ⟨t, _, rfl, ns_of h.1 (by decide)⟩
    | seq => simp [isSq] at e
    | _ => exact ⟨_, _, rfl, by decide⟩
theorem toU_seq {a b : T} : toU (.nd .seq [a, b]) = .tup [.str "seq", toU a, toU b] := rfl
theorem T_row : ∀ (n : Nat) (b : T), size b ≤ n → ok b → ∃ hd ss, toU b = rowU hd ss ∧ nsq hd ∧ (∀ a, toU (rowT a b) = rowU (toU a) (hd :: ss)) ∧ ss.length < size b := by
  intro n
  induction n with
  | zero => intro b h; have := size_pos (t := b); omega
  | succ n ih =>
    intro b hn hb
    cases e : isSq b with
    | false =>
      refine ⟨toU b, [], rfl, T_nsq hb e, fun a => ?_, size_pos⟩
      rw [rowT_ns e]
      rfl
    | true =>
      obtain ⟨x, y, rfl, ox, oy, hy⟩ := ok_sq hb e
      simp only [size, sizes] at hn ⊢
      obtain ⟨hd, ss, e1, e2, e3, e4⟩ := ih x (by omega) ox
      refine ⟨hd, ss ++ [toU y], by rw [rowU_snoc, ← e1]; rfl, e2, fun a => ?_, by simp; omega⟩
      rw [rowT_seq, toU_seq, e3 a, ← List.cons_append, rowU_snoc]
theorem pds_iff : ∀ {us : List U}, pds us = true ↔ ∀ u ∈ us, pd u = true
  | [] => by simp [pds]
  | u :: us => by simp [pds, pds_iff (us := us)]
theorem dps_le : ∀ {us : List U} {n : Nat}, (∀ u ∈ us, dp u ≤ n) → dps us ≤ n
  | [], n => by simp [dps]
  | u :: us, n => by
    intro h
    simp only [dps]
    have a := h u (by simp)
    have b := dps_le (us := us) (n := n) fun w hw => h w (by simp [hw])
    omega
theorem pr_ok {ks : List Str} {us : List U} {n : Nat} (h : ∀ u ∈ us, pd u = true ∧ dp u ≤ n) : ∀ w ∈ (ks.zip us).map pr, pd w = true ∧ dp w ≤ n + 1 := by
  intro w hw
  obtain ⟨p, hp, rfl⟩ := List.mem_map.mp hw
  obtain ⟨a, b⟩ := h p.2 (List.of_mem_zip hp).2
  simp only [pr, pd, pds, dp, dps]
  exact ⟨by simp [a], by omega⟩
mutual
theorem toU_ok : ∀ {t : T}, ok t → pd (toU t) = true ∧ dp (toU t) ≤ 3 * size t
  | .nd h ps => by
    intro ht
    obtain ⟨a, b, c, d⟩ := ht
    have i := toUs_ok d
    have i1 : pds (toUs ps) = true := pds_iff.mpr fun u hu => (i u hu).1
    have i2 : dps (toUs ps) ≤ 3 * sizes ps := dps_le fun u hu => (i u hu).2
    simp only [toU, size]
    cases h with
    | cal x ks =>
      have j := pr_ok (ks := ks) i
      have j1 := pds_iff.mpr fun u hu => (j u hu).1
      have j2 := dps_le fun u hu => (j u hu).2
      have := a.1.2
      simp only [bld, pd, pds, dp, dps, a.1.1, j1]
      exact ⟨by simp, by omega⟩
    | z t => simp [bld, pd, pds, dp, dps]; omega
    | x t u => have := a.2.2; simp [bld, pd, pds, dp, dps, a.2.1]; omega
    | set x => have := a.2; simp [bld, pd, pds, dp, dps, a.1, i1]; omega
    | blk x => have := a.2; simp [bld, pd, pds, dp, dps, a.1, i1]; omega
    | nw x => have := a.2; simp [bld, pd, pds, dp, dps, a.1, i1]; omega
    | prc x qs r => have := a.1.2; have := a.2.2; simp [bld, pd, pds, dp, dps, a.1.1, a.2.1, i1]; omega
    | _ => simp [bld, pd, pds, dp, dps, i1]; omega
theorem toUs_ok : ∀ {ts : List T}, oks ts → ∀ u ∈ toUs ts, pd u = true ∧ dp u ≤ 3 * sizes ts
  | [] => by simp [toUs]
  | t :: ts => by
    intro h u hu
    simp only [toUs, List.mem_cons] at hu
    simp only [sizes]
    rcases hu with rfl | hu
    · obtain ⟨a, b⟩ := toU_ok h.1; exact ⟨a, by omega⟩
    · obtain ⟨a, b⟩ := toUs_ok h.2 u hu; exact ⟨a, by omega⟩
end
/-- the kinds of the parts -/
def kdk (k : Str) : Hd → List Str
  | .z _ => []
  | .x _ _ => []
  | .seq => ["com", "com"]
  | .set _ => ["exp"]
  | .wh => ["exp", "com"]
  | .blk _ => ["com"]
  | .dd => ["com", "exp"]
  | .iff => ["exp", k, k]
  | .nw _ => ["exp", k]
  | .cal _ ks => ks
  | .prc _ _ r => [r, k]
  | .op _ => ["exp", "exp"]
theorem kdk_len {k : Str} {h : Hd} : (kdk k h).length = ar h := by cases h <;> rfl
theorem ar_le {h : Hd} (a : hok h) : ar h ≤ 3 := by
  cases h with
  | cal x ks => have := a.2; simp only [ar]; omega
  | _ => simp [ar]
theorem toDs_strs {g : Nat → Option PyData} : ∀ xs : List Str, toDs g (xs.map U.str) = some (xs.map PyData.str)
  | [] => rfl
  | x :: xs => by simp [toDs, toD, toDs_strs xs]
theorem in_strs {t : Str} {xs : List Str} {μ : Mem} : inU (.str t) (.tup (xs.map U.str)) μ = some (xs.any fun x => decide (x = t)) := by
  unfold inU
  simp only [dctU, seqU]
  have e : datU μ (.str t) = some (.str t) := rfl
  rw [e, toDs_strs]
  simp only
  rw [if_pos (by simp [PyData.depth])]
  congr 1
  rw [List.any_map]
  congr 1
theorem in2 {t a b : Str} {μ : Mem} : inU (.str t) (.tup [.str a, .str b]) μ = some (decide (a = t) || (decide (b = t) || false)) := in_strs (xs := [a, b])
theorem in6 {t a b c d e f : Str} {μ : Mem} : inU (.str t) (.tup [.str a, .str b, .str c, .str d, .str e, .str f]) μ = some (decide (a = t) || (decide (b = t) || (decide (c = t) || (decide (d = t) || (decide (e = t) || (decide (f = t) || false)))))) := in_strs (xs := [a, b, c, d, e, f])
theorem w_kget {tab : List (Str × U)} {i : FE} {s : Slots} {μ : Mem} {Q : U → Mem → Prop} {E : Str → Mem → Prop} : wpE (fKGet tab i s μ) Q E = wpE (i s μ) (fun u μ1 => ∃ z, u = .str z ∧ ∃ w, tab.lookup z = some w ∧ Q w μ1) E := by
  unfold fKGet; rw [w_bind]; congr 1; funext u μ1
  cases u with
  | str z => simp [w_res]
  | _ => simp [wpE]
theorem w_slT1 {u : U} {us : List U} {s : Slots} {μ : Mem} {a : FE} {Q : U → Mem → Prop} {E : Str → Mem → Prop} (h : a s μ = .ok (.tup (u :: us)) μ) : wpE (fSl a (oSome (fC (.int 1))) oNone s μ) Q E = Q (.tup us) μ := by
  have e : fSl a (oSome (fC (.int 1))) oNone s μ = .ok (.tup (cutU (u :: us) (some 1) none)) μ := by
    unfold fSl; rw [h]; rfl
  have e2 : cutU (u :: us) (some 1) none = us := by
    unfold cutU
    have h1 : HT.sIx (u :: us).length 0 (some 1) = 1 := by
      unfold HT.sIx
      simp
      try omega
    have h2 : HT.sIx (u :: us).length (u :: us).length none = (u :: us).length := rfl
    rw [h1, h2]
    simp
  rw [e, e2]; rfl
theorem w_zipT {a b : FE} {us ws : List U} {s : Slots} {μ : Mem} {Q : IterU → Mem → Prop} {E : Str → Mem → Prop} (h : a s μ = .ok (.tup us) μ) (h2 : wpE (b s μ) (fun w μ' => w = .tup ws ∧ μ' = μ) E) (q : Q (.seq (List.zipWith (fun u w => .tup [u, w]) us ws)) μ) : wpE (iZip a b s μ) Q E := by
  unfold Dg.iZip
  rw [h, w_bind]
  show wpE ((b s μ).bind _) Q E
  rw [w_bind]
  refine h2.mono ?_
  rintro w μ' ⟨rfl, rfl⟩
  exact q
def app (tm : List U) (k f : Str) (w : U) : Option (List U) :=
  if f = "com" ∨ f = "exp" then some [.tup [.str f, w]] else if f = "same" then some [.tup [.str k, w]] else if f = "body" then (tm[3]?).map fun x => [.tup [x, w]] else if f = "args" then (match w with | .tup ws => some ws | _ => none) else some []
def apps (tm : List U) (k : Str) : List U → Option (List U)
  | [] => some []
  | .tup [.str f, w] :: r => match app tm k f w, apps tm k r with
    | some a, some b => some (a ++ b)
    | _, _ => none
  | _ => none
theorem kids_ok {C : Calls} {t k : Str} {tl : List U} {home : U} {fs tot : List U} {μ : Mem} {Q : U → Mem → Prop} {E : Str → Mem → Prop} (h1 : tab_FORMS.lookup t = some (.tup [home, .tup fs])) (h2 : apps (.str t :: tl) k (List.zipWith (fun u w => .tup [u, w]) fs tl) = some tot) (hl : tot.length ≤ 10) (hf : fs.length ≤ 10)
    (q : Q (.ref μ.length) (μ ++ [.lst tot])) : wpE (runDef 7 (b_kids C) [.tup (.str t :: tl), .str k] μ) Q E := by
  unfold b_kids
  walk_at "go"
  simp only [s_asg, w_kget]
  walk_at "go"
  refine ⟨_, h1, _, rfl, ?_⟩
  simp only [setAll]
  walk_at "go"
  refine w_zipT rfl (by rw [w_slT1 rfl]; exact ⟨rfl, rfl⟩) ?_
  refine for_go (fun i s' μ' => i ≤ fs.length ∧ (∃ x y, s' = [some (.tup (.str t :: tl)), some (.str k), some (.ref μ.length), some home, some (.tup fs), x, y]) ∧ ∃ acc rest, μ' = μ ++ [.lst acc] ∧ apps (.str t :: tl) k ((List.zipWith (fun u w => .tup [u, w]) fs tl).drop i) = some rest ∧ acc ++ rest = tot) fs.length (by omega) ⟨by omega, ⟨_, _, rfl⟩, [], tot, rfl, by simpa using h2, rfl⟩ (fun i s μ h => h.1) ?_
  rintro i s' μ' ⟨hi, ⟨x, y, rfl⟩, acc, rest, rfl, hr, ht⟩
  rw [item_seq]
  cases e : (List.zipWith (fun u w => U.tup [u, w]) fs tl)[i]? with
  | none =>
    left
    rw [List.drop_eq_nil_of_le (List.getElem?_eq_none_iff.mp e)] at hr
    cases hr
    refine ⟨rfl, ?_⟩
    walk_at "go"
    rw [List.append_nil] at ht
    rw [ht]; exact q
  | some z =>
    right
    obtain ⟨hlt, ez⟩ := List.getElem?_eq_some_iff.mp e
    rw [List.drop_eq_getElem_cons hlt, ez] at hr
    have hi' : i < fs.length := by simp at hlt; omega
    have hz : ∃ f w, z = .tup [f, w] := by
      simp only [List.getElem_zipWith] at ez
      exact ⟨_, _, ez.symm⟩
    obtain ⟨f, w, rfl⟩ := hz
    unfold apps at hr
    split at hr
    · rename_i h0; cases h0
    · rename_i f' w' r' h0
      cases h0
      split at hr
      · rename_i a b ea eb
        cases hr
        have hla : acc.length + a.length + b.length = tot.length := by rw [← ht]; simp; omega
        refine ⟨_, _, rfl, rfl, ?_⟩
        simp only [setAll]
        have g1 : (μ ++ [Cell.lst acc])[μ.length]? = some (.lst acc) := get_snoc
        have g1' : (μ ++ [Cell.lst acc]).set μ.length (.lst (acc ++ a)) = μ ++ [.lst (acc ++ a)] := by simp
        have fin : ∀ sl : Slots, sl = [some (.tup (.str t :: tl)), some (.str k), some (.ref μ.length), some home, some (.tup fs), some (.str f'), some w] → (i + 1 ≤ fs.length ∧ (∃ x y, sl = [some (.tup (.str t :: tl)), some (.str k), some (.ref μ.length), some home, some (.tup fs), x, y]) ∧ ∃ acc' rest, (μ ++ [Cell.lst acc]).set μ.length (.lst (acc ++ a)) = μ ++ [.lst acc'] ∧ apps (.str t :: tl) k ((List.zipWith (fun u w => .tup [u, w]) fs tl).drop (i + 1)) = some rest ∧ acc' ++ rest = tot) := by
          intro sl hsl
          exact ⟨by omega, ⟨_, _, hsl⟩, acc ++ a, b, g1', eb, by simpa using ht⟩
        have hlim : acc.length < lim := by simp [lim]; omega
        unfold app at ea
        walk_at "go"
        simp only [w_in, in2, Option.some.injEq, exists_eq_left', Bool.or_false]
        split at ea
        · rename_i hc
          cases ea
          have hc' : (decide ("com" = f') || decide ("exp" = f')) = true := by rcases hc with rfl | rfl <;> decide
          simp only [hc', if_true]; walk_at "go"
          refine ⟨acc, lstU_L g1, ?_⟩
          rw [w_append g1 hlim]
          exact fin _ rfl
        · rename_i hc
          have hc' : (decide ("com" = f') || decide ("exp" = f')) = false := by
            simp only [not_or] at hc
            simp [Ne.symm hc.1, Ne.symm hc.2]
          simp only [hc', Bool.false_eq_true, if_false]; try walk_at "go"
          split at ea
          · rename_i hd
            cases ea
            simp only [hd, decide_true, if_true]; try walk_at "go"
            refine ⟨acc, lstU_L g1, ?_⟩
            rw [w_append g1 hlim]
            exact fin _ (by rw [hd])
          · rename_i hd
            simp only [hd, decide_false, Bool.false_eq_true, if_false]; try walk_at "go"
            split at ea
            · rename_i he
              obtain ⟨x, ex, rfl⟩ := Option.map_eq_some_iff.mp ea
              simp only [he, decide_true, if_true]; try walk_at "go"
              refine ⟨acc, lstU_L g1, ?_⟩
              refine ⟨x, (Dg.atI_nat 3).trans ex, ?_⟩
              rw [w_append g1 hlim]
              exact fin _ (by rw [he])
            · rename_i he
              simp only [he, decide_false, Bool.false_eq_true, if_false]; try walk_at "go"
              split at ea
              · rename_i hg
                split at ea
                · rename_i ws
                  cases ea
                  simp only [hg, decide_true, if_true]; try walk_at "go"
                  refine ⟨acc, lstU_L g1, ?_⟩
                  rw [w_extT g1 (by simp [lim]; omega)]
                  exact fin _ (by rw [hg])
                · cases ea
              · rename_i hg
                cases ea
                simp only [hg, decide_false, Bool.false_eq_true, if_false]; try walk_at "go"
                have := fin _ rfl
                rw [List.append_nil] at this
                rw [show (μ ++ [Cell.lst acc]).set μ.length (.lst acc) = μ ++ [.lst acc] by simp] at this
                exact this
      · cases hr
    · cases hr
theorem len1 {α : Type} {ps : List α} (h : ps.length = 1) : ∃ x, ps = [x] := by match ps, h with | [x], _ => exact ⟨x, rfl⟩
theorem len2 {α : Type} {ps : List α} (h : ps.length = 2) : ∃ x y, ps = [x, y] := by match ps, h with | [x, y], _ => exact ⟨x, y, rfl⟩
theorem len3 {α : Type} {ps : List α} (h : ps.length = 3) : ∃ x y z, ps = [x, y, z] := by match ps, h with | [x, y, z], _ => exact ⟨x, y, z, rfl⟩
theorem len0 {α : Type} {ps : List α} (h : ps.length = 0) : ps = [] := by match ps, h with | [], _ => rfl
/-- parts with kinds -/
def kps (k : Str) (h : Hd) (ps : List T) : List (Str × U) := (kdk k h).zip (ps.map toU)
structure KidsS (g : List U → Mem → Res U) : Prop where
  ap : ∀ {h : Hd} {ps : List T} {k : Str} {μ : Mem} {Q : U → Mem → Prop} {E : Str → Mem → Prop}, ok (.nd h ps) → Q (.ref μ.length) (μ ++ [.lst ((kps k h ps).map pr)]) → wpE (g [toU (.nd h ps), .str k] μ) Q E
theorem kids_s {C : Calls} : KidsS (runDef 7 (b_kids C)) := by
  constructor
  intro h ps k μ Q E ht q
  obtain ⟨a, b, c, d⟩ := ht
  simp only [toU, toUs_map]
  unfold kps at q
  cases h with
  | z t =>
    obtain rfl := len0 b
    simp only [hok, List.mem_cons, List.not_mem_nil, or_false] at a
    rcases a with rfl | rfl | rfl <;> exact kids_ok rfl rfl (by simp) (by simp) q
  | x t e =>
    obtain rfl := len0 b
    have m := a.1
    simp only [List.mem_cons, List.not_mem_nil, or_false] at m
    rcases m with rfl | rfl | rfl <;> exact kids_ok rfl rfl (by simp) (by simp) q
  | op t =>
    obtain ⟨x, y, rfl⟩ := len2 b
    simp only [hok, List.mem_cons, List.not_mem_nil, or_false] at a
    rcases a with rfl | rfl | rfl | rfl | rfl <;> exact kids_ok rfl rfl (by simp) (by simp) q
  | cal x ks =>
    have := a.2
    refine kids_ok rfl (tot := (ks.zip (ps.map toU)).map pr) ?_ (by simp; omega) (by simp) q
    simp (config := {decide := true}) [apps, app]
  | set x => obtain ⟨x, rfl⟩ := len1 b; exact kids_ok rfl rfl (by simp) (by simp) q
  | blk x => obtain ⟨x, rfl⟩ := len1 b; exact kids_ok rfl rfl (by simp) (by simp) q
  | iff => obtain ⟨x, y, z, rfl⟩ := len3 b; exact kids_ok rfl rfl (by simp) (by simp) q
  | seq => obtain ⟨x, y, rfl⟩ := len2 b; exact kids_ok rfl rfl (by simp) (by simp) q
  | wh => obtain ⟨x, y, rfl⟩ := len2 b; exact kids_ok rfl rfl (by simp) (by simp) q
  | dd => obtain ⟨x, y, rfl⟩ := len2 b; exact kids_ok rfl rfl (by simp) (by simp) q
  | nw n => obtain ⟨x, y, rfl⟩ := len2 b; exact kids_ok rfl rfl (by simp) (by simp) q
  | prc n qs r => obtain ⟨x, y, rfl⟩ := len2 b; exact kids_ok rfl rfl (by simp) (by simp) q
/-- the first word -/
theorem hd_tag {h : Hd} {ps : List T} (o : ok (.nd h ps)) : ∃ t r, toU (.nd h ps) = .tup (.str t :: r) ∧ (t = "seq" ↔ h = .seq) := by
  obtain ⟨a, b, c, d⟩ := o
  have ne : h ≠ .seq → isSq (.nd h ps) = false := by
    intro hh
    cases h <;> first | rfl | exact absurd rfl hh
  by_cases e : h = .seq
  · subst e; exact ⟨_, _, rfl, by simp⟩
  · obtain ⟨t, r, e1, e2⟩ := T_nsq (b := .nd h ps) ⟨a, b, c, d⟩ (ne e)
    exact ⟨t, r, e1, by simp [e, e2]⟩
theorem w_mulL {a : Nat} {m : Nat} {x : U} {μ : Mem} {Q : U → Mem → Prop} {E : Str → Mem → Prop} (h : μ[a]? = some (.lst [x])) (hm : m ≤ 10) (q : Q (.ref μ.length) (μ ++ [.lst (List.replicate m x)])) : wpE (uMul (.ref a) (.int m) μ) Q E := by
  unfold uMul
  simp only [h]
  rw [if_pos ⟨by omega, by omega, by simp [lim]; omega⟩]
  have : repU (m : Int).toNat [x] = List.replicate m x := by
    simp [repU]
  rw [this]
  exact q
/-- the levels of the parts -/
def sqs : Hd → List T → Bool
  | .seq, a :: _ => isSq a
  | _, _ => false
def lvp (h : Hd) (ps : List T) (l : Int) : List Int := if sqs h ps = true then (List.replicate ps.length (l + 1)).set 0 l else List.replicate ps.length (l + 1)
theorem lvp_len {h : Hd} {ps : List T} {l : Int} : (lvp h ps l).length = ps.length := by unfold lvp; split <;> simp
structure LvS (g : List U → Mem → Res U) : Prop where
  ap : ∀ {h : Hd} {ps : List T} {l : Int} {m : Nat} {μ : Mem} {Q : U → Mem → Prop} {E : Str → Mem → Prop}, ok (.nd h ps) → m = ps.length →
    (∀ (r : Nat) μ', Fr μ μ' → μ.length ≤ r → μ'[r]? = some (.lst ((lvp h ps l).map U.int)) → Q (.ref r) μ') → wpE (g [toU (.nd h ps), .int l, .int m] μ) Q E
theorem lv_s {C : Calls} : LvS (runDef 4 (b_levels_of_parts C)) := by
  constructor
  intro h ps l m μ Q E ht hm q
  subst hm
  have hm10 : ps.length ≤ 10 := by have := ar_le ht.1; have := ht.2.1; omega
  obtain ⟨t, r, e, es⟩ := hd_tag ht
  unfold b_levels_of_parts
  rw [e]
  walk_at "go"
  refine w_mulL get_snoc hm10 ?_
  have fr : Fr μ (μ ++ [Cell.lst [U.int (l + 1)]] ++ [Cell.lst (List.replicate ps.length (U.int (l + 1)))]) := (Fr.refl.snoc).snoc
  have cc : (μ ++ [Cell.lst [U.int (l + 1)]] ++ [Cell.lst (List.replicate ps.length (U.int (l + 1)))])[(μ ++ [Cell.lst [U.int (l + 1)]]).length]? = some (.lst ((List.replicate ps.length (l + 1)).map U.int)) := by rw [get_snoc]; simp
  generalize hd : (μ ++ [Cell.lst [U.int (l + 1)]]).length = d at cc ⊢
  have ld : μ.length ≤ d := by rw [← hd]; simp
  generalize μ ++ [Cell.lst [U.int (l + 1)]] ++ [Cell.lst (List.replicate ps.length (U.int (l + 1)))] = μ1 at *
  try walk_at "go"
  have plain : sqs h ps = false → Q (.ref d) μ1 := fun hs => by
    refine q d μ1 fr ld ?_
    unfold lvp
    rw [if_neg (by rw [hs]; decide)]
    exact cc
  split
  · rename_i ht2
    have hs := es.mp (by simpa using ht2)
    subst hs
    obtain ⟨a, b, rfl, _⟩ := ht.2.2.1
    obtain ⟨h1, ps1⟩ := a
    obtain ⟨ta, ra, ea, ea2⟩ := hd_tag ht.2.2.2.1
    have e' : r = [.tup (.str ta :: ra), toU b] := by
      have e2 := e
      rw [toU_seq, ea] at e2
      injection e2 with e2
      injection e2 with _ e2
      exact e2.symm
    subst e'
    try walk_at "go"
    split
    · rename_i hta
      have : h1 = .seq := ea2.mp (by simpa using hta)
      subst this
      refine ⟨_, stU_L cc (j := 0) rfl, ?_⟩
      refine q d _ (fr.put ld) ld ?_
      rw [get_set cc, ← List.map_set]
      rfl
    · rename_i hta
      refine plain ?_
      have : h1 ≠ .seq := fun h => hta (by simpa using ea2.mpr h)
      show isSq (.nd h1 ps1) = false
      cases h1 <;> first | rfl | exact absurd rfl this
  · rename_i ht2
    refine plain ?_
    have : h ≠ .seq := fun hh => ht2 (by simpa using es.mpr hh)
    cases h <;> first | rfl | exact absurd rfl this
theorem pres_app : ∀ {a b : List T}, pres (a ++ b) = pres a ++ pres b
  | [], b => rfl
  | t :: a, b => by simp [pres, pres_app (a := a)]
theorem sizes_app : ∀ {a b : List T}, sizes (a ++ b) = sizes a + sizes b
  | [], b => by simp [sizes]
  | t :: a, b => by simp [sizes, sizes_app (a := a)]; omega
theorem sizes_rev : ∀ {a : List T}, sizes a.reverse = sizes a
  | [] => rfl
  | t :: a => by simp [sizes_app, sizes, sizes_rev (a := a)]; omega
theorem len_sizes : ∀ {a : List T}, a.length ≤ sizes a
  | [] => by simp
  | t :: a => by have := len_sizes (a := a); have := size_pos (t := t); simp [sizes]; omega
abbrev Tr := Str × T × Int
def nod (x : Tr) : T := x.2.1
def tri (x : Tr) : U := .tup [.str x.1, toU x.2.1, .int x.2.2]
def nx (k : Str) (h : Hd) (ps : List T) (ls : List Int) : List Tr := (kdk k h).zip (ps.zip ls)
theorem drop_rev {α : Type} {xs : List α} {i : Nat} (h : i < xs.length) : (xs.drop (xs.length - (i + 1))).reverse = (xs.drop (xs.length - i)).reverse ++ [xs[xs.length - 1 - i]] := by
  rw [List.drop_eq_getElem_cons (by omega), List.reverse_cons]
  congr 3
  · omega
  · omega
mutual
def preL : T → Int → List (T × Int)
  | .nd h ps, l => (.nd h ps, l) :: preLs ps (lvp h ps l)
def preLs : List T → List Int → List (T × Int)
  | t :: ts, l :: ls => preL t l ++ preLs ts ls
  | _, _ => []
end
def flat (xs : List (T × Int)) : List (T × Int) := xs.flatMap fun p => preL p.1 p.2
theorem flat_cons {p : T × Int} {xs : List (T × Int)} : flat (p :: xs) = preL p.1 p.2 ++ flat xs := by simp [flat]
theorem flat_app {xs ys : List (T × Int)} : flat (xs ++ ys) = flat xs ++ flat ys := by simp [flat]
theorem flat_zip : ∀ (ps : List T) (ls : List Int), flat (ps.zip ls) = preLs ps ls
  | [], _ => by simp [flat, preLs]
  | _ :: _, [] => by simp [flat, preLs]
  | p :: ps, l :: ls => by
    have := flat_zip ps ls
    simp only [flat] at this
    simp [flat, preLs, this]
mutual
theorem preL_len : ∀ (t : T) (l : Int), (preL t l).length = size t
  | .nd h ps, l => by simp [preL, size, preLs_len ps (lvp h ps l) lvp_len.symm]; omega
theorem preLs_len : ∀ (ts : List T) (ls : List Int), ts.length = ls.length → (preLs ts ls).length = sizes ts
  | [], ls, _ => by simp [preLs, sizes]
  | t :: ts, [], h => by simp at h
  | t :: ts, l :: ls, h => by simp [preLs, sizes, preL_len t l, preLs_len ts ls (by simpa using h)]
end
theorem flat_len : ∀ xs : List (T × Int), (flat xs).length = sizes (xs.map fun p => p.1)
  | [] => rfl
  | p :: xs => by simp [flat_cons, sizes, preL_len, flat_len xs]
def nodL (x : Tr) : T × Int := (x.2.1, x.2.2)
theorem nodL_fst {st : List Tr} : (st.map nodL).map (fun p => p.1) = st.map nod := by rw [List.map_map]; rfl
structure NodesS (g : List U → Mem → Res U) : Prop where
  ap : ∀ {t : T} {k : Str} {μ : Mem} {Q : U → Mem → Prop} {E : Str → Mem → Prop}, ok t → size t ≤ 900 →
    (∀ (out : List Tr) (r : Nat) μ', out.map nodL = preL t 1 → Fr μ μ' → μ'[r]? = some (.lst (out.map tri)) → Q (.ref r) μ') → wpE (g [toU t, .str k] μ) Q E
theorem nodes_s {C : Calls} (h0 : KidsS (C 0)) (h1 : LvS (C 1)) : NodesS (runDef 12 (b_nodes C)) := by
  constructor
  intro t k μ Q E ht hsz q
  unfold b_nodes
  walk_at "go"
  refine while_go (fun m s' μ' => (∃ x1 x2 x3 x4 x5 x6 x7 x8, s' = [some (toU t), some (.str k), some (.ref μ.length), some (.ref (μ.length + 1)), x1, x2, x3, x4, x5, x6, x7, x8]) ∧ ∃ fo st : List Tr, fo.map nodL ++ flat (st.map nodL).reverse = preL t 1 ∧ (∀ x ∈ st, ok (nod x)) ∧ m = sizes (st.map nod) ∧ μ'[μ.length]? = some (.lst (fo.map tri)) ∧ μ'[μ.length + 1]? = some (.lst (st.map tri)) ∧ Fr μ μ') (m := size t) (by omega) ⟨⟨none, none, none, none, none, none, none, none, by simp⟩, [], [(k, t, 1)], by simp [nodL, flat], by simpa [nod] using ht, by simp [nod, sizes], get_snoc_lt get_snoc, by simp [tri], (Fr.refl.snoc).snoc⟩ ?_
  rintro m s' μ' ⟨⟨x1, x2, x3, x4, x5, x6, x7, x8, rfl⟩, fo, st, ho, hst, hm, c1, c2, fr⟩
  have hsum : fo.length + sizes (st.map nod) = size t := by
    have := congrArg List.length ho
    rw [List.length_append, List.length_map, flat_len, List.map_reverse, nodL_fst, sizes_rev, preL_len] at this
    exact this
  walk_at "go"
  refine ⟨_, truL c2, ?_⟩
  rcases List.eq_nil_or_concat st with rfl | ⟨rest, ⟨k', u', l⟩, rfl⟩
  · simp only [List.map_nil, List.isEmpty_nil, Bool.not_true, Bool.false_eq_true, if_false]
    exact q fo _ _ (by simpa [flat] using ho) fr c1
  · rw [List.concat_eq_append] at *
    obtain ⟨h, ps⟩ := u'
    have ou : ok (.nd h ps) := hst (k', .nd h ps, l) (by simp)
    simp only [List.map_append, List.map_cons, List.map_nil] at c2
    have ne : (!(List.map tri rest ++ [tri (k', .nd h ps, l)]).isEmpty) = true := by simp
    have hsz2 : sizes ((rest ++ [(k', T.nd h ps, l)]).map nod) = sizes (rest.map nod) + (1 + sizes ps) := by
      simp [sizes_app, nod, sizes, size]
    rw [hsz2] at hm hsum
    simp only [List.map_append, List.map_cons, List.map_nil, ne, if_true]
    refine ⟨sizes (rest.map nod) + sizes ps, by omega, ?_⟩
    rw [s_asg]
    walk_at "go"
    refine ⟨_, lstU_L c2, ?_⟩
    rw [w_pop c2]
    refine ⟨_, rfl, ?_⟩
    simp only [setAll]
    have c2' := get_set (c := .lst (rest.map tri)) c2
    have c1' := get_set_ne (i := μ.length + 1) (c := .lst (rest.map tri)) c1 (by omega)
    have fr1 := fr.put (i := μ.length + 1) (c := .lst (rest.map tri)) (by omega)
    simp (config := {decide := true}) only [lstU_L c1', w_run, w_geXI, w_geXP, w_lz, w_op, w_isi, Dg.wipeU, w_powI, w_intB, w_sl, w_oNone, w_oSome, w_slT, w_slF, w_ixF, w_lenF, w_abs, w_max2, w_min2, w_fdivI, w_neg, w_andE, w_orE, w_notE, w_chain, w_c, w_var, w_call, w_def, w_anil, w_acons, w_tup, w_lst, w_int, w_intB, w_lenT, w_addI, w_subI, w_modI, w_mulI, w_ltI, w_leI, w_gtI, w_geI, w_eq, w_ne, w_ixT, w_if, w_nt, w_an, w_or, w_all, w_tstB, w_tst, w_app, w_lc, w_for, w_iseqT, w_rg1, w_rev1, w_d0, Dg.eq_str, Dg.eq_int, s_seq, s_next, s_brk, s_cnt, s_expr, s_ret, s_retN, s_if, w_getE, w_items, w_keys, w_fmt, w_js0, w_js, s_asg1, s_store, s_tryAs, s_try, w_isX, s_raise, List.map_cons, List.map_nil, List.cons_append, List.nil_append, List.length_cons, List.length_nil, List.replicate_succ, List.replicate_zero, Nat.add_sub_cancel, Nat.sub_self, Nat.sub_zero, Nat.reduceAdd, Nat.reduceSub, Nat.zero_add, List.set_cons_succ, List.set_cons_zero, List.getElem?_cons_zero, List.getElem?_cons_succ, Option.some.injEq, exists_eq_left', exists_eq_left, exists_eq_right', U.bl.injEq, U.int.injEq, U.ref.injEq, U.str.injEq, atI_0, atI_1, atI_2, atI_3, atI_4, atI_5, if_true, if_false, true_and, and_true, decide_true, decide_false, Bool.not_true, Bool.not_false, reduceCtorEq, ite_true, ite_false, decide_eq_true_eq, Bool.true_eq_false, Bool.false_eq_true]
    rw [w_append c1' (by simp [lim]; omega)]
    try walk_at "go"
    have c1'' := get_set (c := .lst (fo.map tri ++ [.tup [.str k', toU (.nd h ps), .int l]])) c1'
    have c2'' := get_set_ne (i := μ.length) (c := .lst (fo.map tri ++ [.tup [.str k', toU (.nd h ps), .int l]])) c2' (by omega)
    have fr2 := fr1.put (i := μ.length) (c := .lst (fo.map tri ++ [.tup [.str k', toU (.nd h ps), .int l]])) (by omega)
    generalize (μ'.set (μ.length + 1) (.lst (rest.map tri))).set μ.length (.lst (fo.map tri ++ [.tup [.str k', toU (.nd h ps), .int l]])) = μ2 at *
    refine h0.ap (k := k') ou ?_
    have hlk : (kps k' h ps).length = ps.length := by simp [kps, kdk_len, ou.2.1]
    have d0 : (μ2 ++ [Cell.lst ((kps k' h ps).map pr)])[μ2.length]? = some (.lst ((kps k' h ps).map pr)) := get_snoc
    have d1 := get_snoc_lt (c := .lst ((kps k' h ps).map pr)) c1''
    have d2 := get_snoc_lt (c := .lst ((kps k' h ps).map pr)) c2''
    have fr3 := fr2.snoc (c := .lst ((kps k' h ps).map pr))
    have lP : μ.length + 1 < μ2.length := get_lt c2''
    have lQ : μ.length + 1 < (μ2 ++ [Cell.lst ((kps k' h ps).map pr)]).length := by simp; omega
    generalize μ2 ++ [Cell.lst ((kps k' h ps).map pr)] = μ3 at *
    generalize μ2.length = P at *
    try walk_at "go"
    rw [w_lenL d0, List.length_map, hlk]
    refine h1.ap (m := ps.length) ou rfl fun L μ4 fr4 lL cL => ?_
    have hls := lvp_len (h := h) (ps := ps) (l := l)
    generalize hgl : lvp h ps l = ls at *
    have e0 := fr4.at_ _ _ d0
    have e1 := fr4.at_ _ _ d1
    have e2 := fr4.at_ _ _ d2
    have fr5 := fr3.trans fr4
    try walk_at "go"
    rw [w_lenL e0, List.length_map, hlk]
    have hp3 : ps.length ≤ 3 := by have := ar_le ou.1; have := ou.2.1; omega
    refine ⟨_, rfl, by unfold okR; simp; omega, ?_⟩
    have hfm : fo.map tri ++ [.tup [.str k', toU (.nd h ps), .int l]] = (fo ++ [((k', T.nd h ps, l) : Tr)]).map tri := by simp [tri]
    rw [hfm] at e1
    have hn : (nx k' h ps ls).length = ps.length := by simp [nx, kdk_len, ou.2.1, hls]
    refine for_go (fun i s' μ5 => i ≤ ps.length ∧ (∃ x1 x2 x3, s' = [some (toU t), some (.str k), some (.ref μ.length), some (.ref (μ.length + 1)), some (.str k'), some (toU (.nd h ps)), some (.int l), some (.ref P), some (.ref L), x1, x2, x3]) ∧ μ5[μ.length]? = some (.lst ((fo ++ [((k', T.nd h ps, l) : Tr)]).map tri)) ∧ μ5[μ.length + 1]? = some (.lst ((rest ++ ((nx k' h ps ls).drop ((nx k' h ps ls).length - i)).reverse).map tri)) ∧ μ5[P]? = some (.lst ((kps k' h ps).map pr)) ∧ μ5[L]? = some (.lst (ls.map U.int)) ∧ Fr μ μ5) ps.length (by omega) ⟨by omega, ⟨x6, x7, x8, by simp⟩, e1, by simpa using e2, e0, cL, fr5⟩ (fun i _ μ h => h.1) ?_
    rintro i s' μ5 ⟨hi, ⟨y1, y2, y3, rfl⟩, g1, g2, g3, g4, g5⟩
    rw [item_rng]
    by_cases e : i < ps.length
    · right
      refine ⟨_, _, by rw [if_pos (by simpa using e)], rfl, ?_⟩
      obtain ⟨A, hA⟩ : ∃ A, ps.length - 1 - i = A := ⟨_, rfl⟩
      have hAl : A < ps.length := by omega
      have hat : ((((ps.length : Int).toNat : Nat) : Int) - 1) + (i : Int) * -1 = (A : Int) := by omega
      have hkl : A < (kdk k' h).length := by rw [kdk_len, ← ou.2.1]; exact hAl
      have hit : ((kps k' h ps).map pr)[A]? = some (.tup [.str (kdk k' h)[A], toU ps[A]]) := by
        rw [List.getElem?_map, List.getElem?_eq_getElem (show A < (kps k' h ps).length by omega)]
        simp [kps, pr]
      have hil : (ls.map U.int)[A]? = some (.int (ls[A]'(by omega))) := by simp [hls, hAl]
      rw [s_seq, s_asg]
      try walk_at "go"
      rw [w_ixL g3]
      simp only [hat, Dg.atI_nat]
      refine ⟨_, hit, ?_⟩
      simp only [setT, List.length_cons, List.length_nil, if_true, Option.some.injEq, exists_eq_left', setAll]
      simp (config := {decide := true}) only [lstU_L g2, w_ixL g4, Dg.atI_nat, hat, hil, w_run, w_geXI, w_geXP, w_lz, w_op, w_isi, Dg.wipeU, w_powI, w_intB, w_sl, w_oNone, w_oSome, w_slT, w_slF, w_ixF, w_lenF, w_abs, w_max2, w_min2, w_fdivI, w_neg, w_andE, w_orE, w_notE, w_chain, w_c, w_var, w_call, w_def, w_anil, w_acons, w_tup, w_lst, w_int, w_intB, w_lenT, w_addI, w_subI, w_modI, w_mulI, w_ltI, w_leI, w_gtI, w_geI, w_eq, w_ne, w_ixT, w_if, w_nt, w_an, w_or, w_all, w_tstB, w_tst, w_app, w_lc, w_for, w_iseqT, w_rg1, w_rev1, w_d0, Dg.eq_str, Dg.eq_int, s_seq, s_next, s_brk, s_cnt, s_expr, s_ret, s_retN, s_if, w_getE, w_items, w_keys, w_fmt, w_js0, w_js, s_asg1, s_store, s_tryAs, s_try, w_isX, s_raise, List.map_cons, List.map_nil, List.cons_append, List.nil_append, List.length_cons, List.length_nil, List.replicate_succ, List.replicate_zero, Nat.add_sub_cancel, Nat.sub_self, Nat.sub_zero, Nat.reduceAdd, Nat.reduceSub, Nat.zero_add, List.set_cons_succ, List.set_cons_zero, List.getElem?_cons_zero, List.getElem?_cons_succ, Option.some.injEq, exists_eq_left', exists_eq_left, exists_eq_right', U.bl.injEq, U.int.injEq, U.ref.injEq, U.str.injEq, atI_0, atI_1, atI_2, atI_3, atI_4, atI_5, if_true, if_false, true_and, and_true, decide_true, decide_false, Bool.not_true, Bool.not_false, reduceCtorEq, ite_true, ite_false, decide_eq_true_eq, Bool.true_eq_false, Bool.false_eq_true]
      have hlen2 : rest.length ≤ sizes (rest.map nod) := by simpa using len_sizes (a := rest.map nod)
      rw [w_append g2 (by simp [lim, hn]; omega)]
      refine ⟨by omega, ⟨_, _, _, rfl⟩, get_set_ne g1 (by omega), ?_, get_set_ne g3 (by omega), get_set_ne g4 (by omega), g5.put (by omega)⟩
      rw [get_set g2, drop_rev (by omega)]
      have enx : (nx k' h ps ls)[(nx k' h ps ls).length - 1 - i]'(by omega) = ((kdk k' h)[A], ps[A], ls[A]'(by omega)) := by
        have : (nx k' h ps ls).length - 1 - i = A := by omega
        simp only [this]
        simp [nx]
      rw [enx]
      simp [tri]
    · left
      refine ⟨by rw [if_neg (by simpa using e)], ?_⟩
      try walk_at "go"
      have hie : i = ps.length := by omega
      subst hie
      have hnod : (nx k' h ps ls).map nod = ps := by
        apply List.ext_getElem
        · simp [hn]
        · intro j j1 j2; simp [nx, nod]
      refine ⟨⟨_, _, _, _, _, _, _, _, rfl⟩, fo ++ [((k', T.nd h ps, l) : Tr)], rest ++ (nx k' h ps ls).reverse, ?_, ?_, ?_, g1, ?_, g5⟩
      · have hz : (nx k' h ps ls).map nodL = ps.zip ls := by
          apply List.ext_getElem
          · simp [hn, hls]
          · intro j j1 j2; simp [nx, nodL]
        rw [← ho]
        simp only [List.map_append, List.map_cons, List.map_nil, List.reverse_append, List.reverse_cons, List.reverse_nil, List.nil_append, List.map_reverse, List.reverse_reverse, hz, flat_app, flat_zip, List.append_assoc, List.cons_append]
        simp only [nodL, flat_cons, preL, hgl, List.cons_append]
      · intro x hx
        rcases List.mem_append.mp hx with m | m
        · exact hst x (by simp [m])
        · have : nod x ∈ (nx k' h ps ls).map nod := List.mem_map_of_mem (List.mem_reverse.mp m)
          rw [hnod] at this
          exact oks_mem ou.2.2.2 _ this
      · rw [List.map_append, List.map_reverse, hnod, sizes_app, sizes_rev]
      · simpa [hn] using g2
theorem maxI_ge : ∀ (is : List Int) (m : Int), (∀ x ∈ m :: is, x ≤ maxI m is) ∧ maxI m is ∈ m :: is
  | [], m => by simp [maxI]
  | i :: is, m => by
    obtain ⟨a, b⟩ := maxI_ge is (if i > m then i else m)
    have e : maxI m (i :: is) = maxI (if i > m then i else m) is := by first | rfl | simp [maxI]
    rw [e]
    have z1 : m ≤ (if i > m then i else m) := by split <;> omega
    have z2 : i ≤ (if i > m then i else m) := by split <;> omega
    have z3 : (if i > m then i else m) = i ∨ (if i > m then i else m) = m := by split <;> simp
    have h0 := a (if i > m then i else m) (by simp)
    generalize (if i > m then i else m) = z at *
    refine ⟨fun x hx => ?_, ?_⟩
    · rcases List.mem_cons.mp hx with rfl | hx
      · exact Int.le_trans z1 h0
      · rcases List.mem_cons.mp hx with rfl | hx
        · exact Int.le_trans z2 h0
        · exact a x (by simp [hx])
    · rcases List.mem_cons.mp b with h | h
      · rw [h]; rcases z3 with z3 | z3 <;> simp [z3]
      · simp [h]
theorem w_maxL {r : Nat} {us : List U} {m : Int} {is : List Int} {μ : Mem} {Q : U → Mem → Prop} {E : Str → Mem → Prop} (h : μ[r]? = some (.lst us)) (e : intsU us = some (m :: is)) : wpE (bMax [.ref r] μ) Q E = Q (.int (maxI m is)) μ := by
  have : bMax [.ref r] μ = .ok (.int (maxI m is)) μ := by unfold bMax; simp only [lstU_L h, Option.bind_some, e]
  rw [this]; rfl
def lvU : U → U
  | .tup [_, _, l] => l
  | _ => .non
structure LargeS (g : List U → Mem → Res U) : Prop where
  ap : ∀ {t : T} {k : Str} {μ : Mem} {Q : U → Mem → Prop} {E : Str → Mem → Prop}, ok t → size t ≤ 900 → (∀ (b : Bool) μ', (b = true ↔ 400 < size t ∨ ∃ p ∈ preL t 1, 30 < p.2) → Fr μ μ' → Q (.bl b) μ') → wpE (g [toU t, .str k] μ) Q E
theorem large_s {C : Calls} (h2 : NodesS (C 2)) : LargeS (runDef 5 (b_is_too_large C)) := by
  constructor
  intro t k μ Q E ot st q
  unfold b_is_too_large
  walk_at "go"
  refine h2.ap ot st fun out r μ1 ho f1 c1 => ?_
  have hl : out.length = size t := by have := congrArg List.length ho; simpa [preL_len] using this
  rw [w_lenL c1, List.length_map, hl]
  try walk_at "go"
  by_cases h4 : (400 : Int) < (size t : Int)
  · rw [if_pos (by simpa using h4)]
    exact q true μ1 (by simp; left; omega) f1
  · rw [if_neg (by simpa using h4)]
    refine ⟨_, listAt_L c1, ?_⟩
    refine lc_mapL c1 lvU (by simp; omega) (fun j μ2 hj f2 => ?_) fun μ2 f2 c2 => ?_
    · have hj' : j < out.length := by simpa using hj
      have ej : (out.map tri)[j] = .tup [.str out[j].1, toU out[j].2.1, .int out[j].2.2] := by simp [tri]
      rw [ej]
      refine ⟨[some (toU t), some (.str k), some (.ref r), some (toU out[j].2.1), some (.int out[j].2.2)], rfl, ?_⟩
      walk_at "go"
      exact ⟨rfl, .refl⟩
    · have e1 : (out.map tri).map lvU = (preL t 1).map (fun p => U.int p.2) := by
        rw [← ho, List.map_map, List.map_map]; rfl
      rw [e1] at c2
      have e2 := intsU_map (fun p : T × Int => p.2) (preL t 1)
      obtain ⟨h, ps⟩ := t
      have e3 : (preL (.nd h ps) 1).map (fun p => p.2) = 1 :: (preLs ps (lvp h ps 1)).map (fun p => p.2) := by simp [preL]
      rw [e3] at e2
      rw [w_maxL c2 e2]
      try walk_at "go"
      obtain ⟨m1, m2⟩ := maxI_ge ((preLs ps (lvp h ps 1)).map (fun p => p.2)) 1
      rw [← e3] at m1 m2
      refine q _ μ2 ?_ (f1.trans f2)
      rw [decide_eq_true_eq]
      constructor
      · intro hm
        obtain ⟨p, hp, e⟩ := List.mem_map.mp m2
        exact .inr ⟨p, hp, by rw [e]; exact hm⟩
      · rintro (h5 | ⟨p, hp, h5⟩)
        · omega
        · have := m1 p.2 (List.mem_map_of_mem hp)
          omega
/-! dict comprehensions -/
theorem dk_by {j : IterU} {own : List Nat} {g : Tgt} {t : FT} {kk e : FE} {s : Slots} {D : Nat} {Q : U → Mem → Prop} {E : Str → Mem → Prop} (us : List U) (hj : j = .seq us) (I : Nat → Mem → Prop)
    (step : ∀ i μ (h : i < us.length), I i μ → ∃ s1, setT g us[i] (wipeU s own) = some s1 ∧ t s1 μ = .ok true μ ∧ wpE (kk s1 μ) (fun kv μ4 => wpE (e s1 μ4) (fun v μ5 => ∃ acc ky, μ5[D]? = some (.dct acc) ∧ keyU kv = some ky ∧ acc.length < lim ∧ I (i + 1) (μ5.set D (.dct (putU acc ky v)))) (fun _ _ => False)) (fun _ _ => False))
    (fin : ∀ μ, I us.length μ → Q (.ref D) μ) : ∀ (f i : Nat) (μ : Mem), us.length < f + i → i ≤ us.length → I i μ → wpE (dkGo j own g t kk e s D f i μ) Q E
  | 0, i, μ, hf, hi, h => by omega
  | f + 1, i, μ, hf, hi, h => by
    subst hj
    unfold dkGo
    rw [item_seq]
    by_cases e0 : i < us.length
    · obtain ⟨s1, e1, e2, w⟩ := step i μ e0 h
      rw [List.getElem?_eq_getElem e0]
      simp only [e1, e2]
      obtain ⟨kv, μ4, ek, w⟩ := w.get
      simp only [ek]
      obtain ⟨v, μ5, ev, w⟩ := w.get
      simp only [ev]
      obtain ⟨acc, ky, a1, a2, a3, a4⟩ := w
      simp only [a1, a2, a3, if_true]
      exact dk_by us rfl I step fin f (i + 1) _ (by omega) (by omega) a4
    · have : i = us.length := by omega
      subst this
      rw [List.getElem?_eq_none (by omega)]
      exact fin μ h
theorem w_dcK {it : FI} {own : List Nat} {g : Tgt} {t : FT} {kk e : FE} {s : Slots} {μ : Mem} {Q : U → Mem → Prop} {E : Str → Mem → Prop} : wpE (fDcK it own g t kk e s μ) Q E = wpE (it s μ) (fun j μ1 => wpE (dkGo j own g t kk e s μ1.length fuelF 0 (μ1 ++ [.dct []])) Q E) E := w_bind
/-! modules -/
def vU (v : Str × Int) : U := .tup [.str v.1, .int v.2]
def oU (o : Str × Str × T) : U := .tup [.str o.1, .str o.2.1, toU o.2.2]
def moU (vs : List (Str × Int)) (os : List (Str × Str × T)) : U := .tup [.tup (vs.map vU), .tup (os.map oU)]
def dU (d : Str × List Str × Str) : U := .tup [.str d.1, .tup (d.2.1.map U.str), .str d.2.2]
def clU (ds : List (Str × List Str × Str)) (k : Str) (t : T) : U := .tup [.tup (ds.map dU), .str k, toU t]
def nwT (t : T) (v : Str × Int) : T := .nd (.nw (.str v.1)) [.nd (.x "num" (.int v.2)) [], t]
def prT (t : T) (o : Str × Str × T) : T := .nd (.prc (.str o.1) (.tup []) o.2.1) [o.2.2, t]
theorem nwT_U {t : T} {v : Str × Int} : toU (nwT t v) = .tup [.str "new", .str v.1, .tup [.str "num", .int v.2], toU t] := rfl
theorem prT_U {t : T} {o : Str × Str × T} : toU (prT t o) = .tup [.str "proc", .str o.1, .tup [], .str o.2.1, toU o.2.2, toU t] := rfl
structure WithVS (g : List U → Mem → Res U) : Prop where
  ap : ∀ {vs : List (Str × Int)} {t : T} {μ : Mem} {Q : U → Mem → Prop} {E : Str → Mem → Prop}, vs.length ≤ 100 → Q (toU (vs.reverse.foldl nwT t)) μ → wpE (g [.tup (vs.map vU), toU t] μ) Q E
theorem w_revT {a : FE} {s : Slots} {μ : Mem} {Q : IterU → Mem → Prop} {E : Str → Mem → Prop} {us : List U} (h : a s μ = .ok (.tup us) μ) : wpE (iRevL a s μ) Q E = Q (.seq us.reverse) μ := by
  have : iRevL a s μ = .ok (.seq us.reverse) μ := by
    unfold iRevL
    rw [h]
    rfl
  rw [this]; rfl
theorem foldl_take {α β : Type} (f : β → α → β) (b : β) {xs : List α} {i : Nat} (h : i < xs.length) : (xs.take (i + 1)).foldl f b = f ((xs.take i).foldl f b) xs[i] := by
  rw [take_snoc h, List.foldl_append]; rfl
theorem with_v_s {C : Calls} : WithVS (runDef 4 (b_with_variables C)) := by
  constructor
  intro vs t μ Q E hv q
  unfold b_with_variables
  walk_at "go"
  rw [w_revT rfl, ← List.map_reverse]
  refine for_seq (fun i s' μ' => μ' = μ ∧ ∃ x2 x3, s' = [some (.tup (vs.map vU)), some (toU ((vs.reverse.take i).foldl nwT t)), x2, x3]) (by simp; omega) ⟨rfl, _, _, rfl⟩ ?_ ?_
  · rintro i s' μ' hi ⟨rfl, x2, x3, rfl⟩
    have hi' : i < vs.reverse.length := by simpa using hi
    have ei : (vs.reverse.map vU)[i] = .tup [.str vs.reverse[i].1, .int vs.reverse[i].2] := by simp [vU]
    rw [ei]
    refine ⟨[some (.tup (vs.map vU)), some (toU ((vs.reverse.take i).foldl nwT t)), some (.str vs.reverse[i].1), some (.int vs.reverse[i].2)], rfl, ?_⟩
    walk_at "go"
    rw [foldl_take nwT t hi', nwT_U]
    exact ⟨_, _, rfl⟩
  · rintro s' μ' ⟨rfl, x2, x3, rfl⟩
    walk_at "go"
    have e : vs.reverse.take (vs.reverse.map vU).length = vs.reverse := by rw [List.length_map, List.take_length]
    rw [e]
    exact q
def kOf (os : List (Str × Str × T)) (n : Str) : Option Str := (os.find? fun o => decide (o.1 = n)).map (·.2.1)
def kvO (o : Str × Str × T) : Key × U := (.inr o.1, .str o.2.1)
theorem val_k (os : List (Str × Str × T)) (n : Str) : valU (os.map kvO) (.inr n) = (kOf os n).map U.str := by
  induction os with
  | nil => rfl
  | cons o os ih =>
    unfold valU kOf at *
    rw [List.map_cons, List.find?_cons, List.find?_cons]
    by_cases h : o.1 = n
    · simp [kvO, h]
    · have h' : ¬ (Sum.inr o.1 : Key) = .inr n := fun e => h (Sum.inr.inj e)
      simp only [kvO, h, h', decide_false] at *
      exact ih
theorem put_new {acc : List (Key × U)} {k : Key} {u : U} (h : ∀ p ∈ acc, p.1 ≠ k) : putU acc k u = acc ++ [(k, u)] := by
  unfold putU
  rw [if_neg]
  simp only [List.any_eq_true, decide_eq_true_eq, not_exists, not_and]
  exact fun p hp => h p hp
theorem in_D {d : Nat} {kus : List (Key × U)} {n : Str} {μ : Mem} (h : μ[d]? = some (.dct kus)) : inU (.str n) (.ref d) μ = some (valU kus (.inr n)).isSome := by
  have e : dctU μ (.ref d) = some kus := by simp only [dctU, h]
  unfold inU
  simp only [e, keyU]
structure CheckS (g : List U → Mem → Res U) : Prop where
  ap : ∀ {vs : List (Str × Int)} {os : List (Str × Str × T)} {ds : List (Str × List Str × Str)} {kd : Str} {t : T} {μ : Mem} {Q : U → Mem → Prop} {E : Str → Mem → Prop}, (os.map (·.1)).Nodup → os.length ≤ 100 → ds.length ≤ 100 → (∀ d ∈ ds, d.1.length ≤ 100) →
    ((∀ d ∈ ds, (kOf os d.1).isSome = true) → kd = "com" → (∀ d ∈ ds, d.2.1 = [] ∧ kOf os d.1 = some d.2.2) → ∀ μ', Fr μ μ' → Q .non μ') →
    ((∃ d ∈ ds, kOf os d.1 = none) → ∀ μ', Fr μ μ' → E "BadName" μ') →
    ((∀ d ∈ ds, (kOf os d.1).isSome = true) → (kd ≠ "com" ∨ ∃ d ∈ ds, d.2.1 ≠ [] ∨ kOf os d.1 ≠ some d.2.2) → ∀ μ', Fr μ μ' → E "BadKind" μ') → wpE (g [moU vs os, clU ds kd t] μ) Q E
theorem check_s {C : Calls} : CheckS (runDef 10 (b_check_client C)) := by
  constructor
  intro vs os ds kd t μ Q E hnd hol hdl hdn q0 q1 q2
  have e0 : Str.empty.length = 0 := rfl
  have t1 : (Str.ofString " is not an operation of the module").length = 34 := by decide +kernel
  have t2 : (Str.ofString " is not declared as the operation is").length = 36 := by decide +kernel
  unfold b_check_client clU
  walk_at "go"
  rw [s_asg]
  walk_at "go"
  refine ⟨_, rfl, ?_⟩
  simp only [setAll]
  unfold moU
  simp (config := {decide := true}) only [w_dcK, w_run, w_geXI, w_geXP, w_lz, w_op, w_isi, Dg.wipeU, w_powI, w_intB, w_sl, w_oNone, w_oSome, w_slT, w_slF, w_ixF, w_lenF, w_abs, w_max2, w_min2, w_fdivI, w_neg, w_andE, w_orE, w_notE, w_chain, w_c, w_var, w_call, w_def, w_anil, w_acons, w_tup, w_lst, w_int, w_intB, w_lenT, w_addI, w_subI, w_modI, w_mulI, w_ltI, w_leI, w_gtI, w_geI, w_eq, w_ne, w_ixT, w_if, w_nt, w_an, w_or, w_all, w_tstB, w_tst, w_app, w_lc, w_for, w_iseqT, w_rg1, w_rev1, w_d0, Dg.eq_str, Dg.eq_int, s_seq, s_next, s_brk, s_cnt, s_expr, s_ret, s_retN, s_if, w_getE, w_items, w_keys, w_fmt, w_js0, w_js, s_asg1, s_store, s_tryAs, s_try, w_isX, s_raise, List.map_cons, List.map_nil, List.cons_append, List.nil_append, List.length_cons, List.length_nil, List.replicate_succ, List.replicate_zero, Nat.add_sub_cancel, Nat.sub_self, Nat.sub_zero, Nat.reduceAdd, Nat.reduceSub, Nat.zero_add, List.set_cons_succ, List.set_cons_zero, List.getElem?_cons_zero, List.getElem?_cons_succ, Option.some.injEq, exists_eq_left', exists_eq_left, exists_eq_right', U.bl.injEq, U.int.injEq, U.ref.injEq, U.str.injEq, atI_0, atI_1, atI_2, atI_3, atI_4, atI_5, if_true, if_false, true_and, and_true, decide_true, decide_false, Bool.not_true, Bool.not_false, reduceCtorEq, ite_true, ite_false, decide_eq_true_eq, Bool.true_eq_false, Bool.false_eq_true]
  refine dk_by (os.map oU) rfl (fun i μ' => μ'[μ.length]? = some (.dct ((os.take i).map kvO)) ∧ Fr μ μ') (fun i μ1 hi hI => ?_) (fun μ1 hI => ?_) fuelF 0 _ (by unfold fuelF; simp; omega) (by omega) ⟨get_snoc, Fr.refl.snoc⟩
  · have hi' : i < os.length := by simpa using hi
    have ei : (os.map oU)[i] = .tup [.str os[i].1, .str os[i].2.1, toU os[i].2.2] := by simp [oU]
    rw [ei]
    refine ⟨[some (.tup [.tup (vs.map vU), .tup (os.map oU)]), some (.tup [.tup (ds.map dU), .str kd, toU t]), some (.tup (ds.map dU)), some (.str kd), some (toU os[i].2.2), none, some (.str os[i].1), none, none, some (.str os[i].2.1)], rfl, rfl, ?_⟩
    walk_at "go"
    have hne : ∀ p ∈ (os.take i).map kvO, p.1 ≠ Sum.inr os[i].1 := by
      intro p hp e
      obtain ⟨o, ho, rfl⟩ := List.mem_map.mp hp
      have e' : o.1 = os[i].1 := Sum.inr.inj e
      obtain ⟨j, hj, rfl⟩ := List.mem_iff_getElem.mp ho
      have hj' : j < i := by simp at hj; omega
      rw [List.getElem_take] at e'
      have := List.pairwise_iff_getElem.mp hnd j i (by simp; omega) (by simp; omega) hj'
      exact this (by simpa using e')
    refine ⟨_, _, hI.1, rfl, by simp [lim]; omega, ?_, hI.2.put (Nat.le_refl _)⟩
    rw [get_set hI.1, put_new hne, take_snoc hi', List.map_append]
    rfl
  · have c1 : μ1[μ.length]? = some (.dct (os.map kvO)) := by
      have := hI.1
      rw [List.length_map, List.take_length] at this
      exact this
    have f1 := hI.2
    generalize μ.length = d at *
    try walk_at "go"
    refine for_seq (fun i s' μ' => μ' = μ1 ∧ (∃ x4 x6, s' = [some (.tup [.tup (vs.map vU), .tup (os.map oU)]), some (.tup [.tup (ds.map dU), .str kd, toU t]), some (.tup (ds.map dU)), some (.str kd), x4, some (.ref d), x6, none, none, none]) ∧ ∀ j (h : j < ds.length), j < i → (kOf os ds[j].1).isSome = true) (by simp; omega) ⟨rfl, ⟨_, _, rfl⟩, fun j h hj => by omega⟩ ?_ ?_
    · rintro i s' μ2 hi ⟨rfl, ⟨x4, x6, rfl⟩, hall⟩
      have hi' : i < ds.length := by simpa using hi
      have ei : (ds.map dU)[i] = .tup [.str ds[i].1, .tup (ds[i].2.1.map U.str), .str ds[i].2.2] := by simp [dU]
      rw [ei]
      refine ⟨[some (.tup [.tup (vs.map vU), .tup (os.map oU)]), some (.tup [.tup (ds.map dU), .str kd, toU t]), some (.tup (ds.map dU)), some (.str kd), some (.str ds[i].2.2), some (.ref d), some (.str ds[i].1), none, none, none], rfl, ?_⟩
      walk_at "go"
      rw [w_nin]
      refine ⟨_, in_D c1, _, rfl, ?_⟩
      rw [val_k]
      cases hk : kOf os ds[i].1 with
      | none =>
        rw [if_pos (by simp)]
        have hb := hdn _ (List.getElem_mem hi')
        refine ⟨_, fmt_str (by simp [lim]; omega), ?_, ?_, q1 ⟨_, List.getElem_mem hi', hk⟩ _ f1⟩
        all_goals (simp only [len_app, e0, t1, lim]; omega)
      | some k =>
        rw [if_neg (by simp)]
        refine ⟨rfl, ⟨_, _, rfl⟩, fun j h hj => ?_⟩
        by_cases e : j = i
        · subst e; rw [hk]; rfl
        · exact hall j h (by omega)
    · rintro s' μ2 ⟨rfl, ⟨x4, x6, rfl⟩, hall⟩
      have hs : ∀ d ∈ ds, (kOf os d.1).isSome = true := fun d hd => by
        obtain ⟨j, hj, rfl⟩ := List.mem_iff_getElem.mp hd
        exact hall j hj (by simpa using hj)
      try walk_at "go"
      by_cases hk : kd = "com"
      · rw [if_neg (by simp [hk])]
        refine for_seq (fun i s' μ' => μ' = μ2 ∧ (∃ x6 x7 x8, s' = [some (.tup [.tup (vs.map vU), .tup (os.map oU)]), some (.tup [.tup (ds.map dU), .str kd, toU t]), some (.tup (ds.map dU)), some (.str kd), x4, some (.ref d), x6, x7, x8, none]) ∧ ∀ j (h : j < ds.length), j < i → (ds[j].2.1 = [] ∧ kOf os ds[j].1 = some ds[j].2.2)) (by simp; omega) ⟨rfl, ⟨_, _, _, rfl⟩, fun j h hj => by omega⟩ ?_ ?_
        · rintro i s' μ3 hi ⟨rfl, ⟨x6, x7, x8, rfl⟩, hall2⟩
          have hi' : i < ds.length := by simpa using hi
          have ei : (ds.map dU)[i] = .tup [.str ds[i].1, .tup (ds[i].2.1.map U.str), .str ds[i].2.2] := by simp [dU]
          rw [ei]
          refine ⟨[some (.tup [.tup (vs.map vU), .tup (os.map oU)]), some (.tup [.tup (ds.map dU), .str kd, toU t]), some (.tup (ds.map dU)), some (.str kd), x4, some (.ref d), some (.str ds[i].1), some (.tup (ds[i].2.1.map U.str)), some (.str ds[i].2.2), none], rfl, ?_⟩
          have hb := hdn _ (List.getElem_mem hi')
          have bad : (ds[i].2.1 ≠ [] ∨ kOf os ds[i].1 ≠ some ds[i].2.2) → ∃ y, fmtOk (U.str ds[i].1) y ∧ (Str.empty ++ y).length ≤ lim ∧ (Str.empty ++ y ++ Str.ofString " is not declared as the operation is").length ≤ lim ∧ E "BadKind" μ3 := fun h => by
            refine ⟨_, fmt_str (by simp [lim]; omega), ?_, ?_, q2 hs (.inr ⟨_, List.getElem_mem hi', h⟩) _ f1⟩
            all_goals (simp only [len_app, e0, t2, lim]; omega)
          walk_at "go"
          refine ⟨_, tru_T, ?_⟩
          cases ht : ds[i].2.1 with
          | cons z zs =>
            rw [if_pos (by simp)]
            exact bad (.inl (by rw [ht]; simp))
          | nil =>
            rw [if_neg (by simp)]
            obtain ⟨k, hk2⟩ := Option.isSome_iff_exists.mp (hs _ (List.getElem_mem hi'))
            rw [w_ixD c1]
            refine ⟨.str k, by rw [val_k, hk2]; rfl, ?_⟩
            try walk_at "go"
            by_cases e : ds[i].2.2 = k
            · rw [if_neg (by simp [e])]
              refine ⟨⟨_, _, _, rfl⟩, fun j h hj => ?_⟩
              by_cases e2 : j = i
              · subst e2; exact ⟨ht, by rw [hk2, e]⟩
              · exact hall2 j h (by omega)
            · rw [if_pos (by simp [e])]
              exact bad (.inr (by rw [hk2]; intro h; exact e (Option.some.inj h).symm))
        · rintro s' μ3 ⟨rfl, ⟨x6, x7, x8, rfl⟩, hall2⟩
          refine q0 hs hk (fun d hd => ?_) _ f1
          obtain ⟨j, hj, rfl⟩ := List.mem_iff_getElem.mp hd
          exact hall2 j hj (by simpa using hj)
      · rw [if_pos (by simp [hk])]
        exact q2 hs (.inl hk) _ f1
def lkT (vs : List (Str × Int)) (os : List (Str × Str × T)) (t : T) : T := vs.reverse.foldl nwT (os.reverse.foldl prT t)
def linked (vs : List (Str × Int)) (os : List (Str × Str × T)) (t : T) : U := .tup [.tup [], .str "com", toU (lkT vs os t)]
def large (t : T) : Prop := 400 < size t ∨ ∃ p ∈ preL t 1, 30 < p.2
structure LinkS (g : List U → Mem → Res U) : Prop where
  ap : ∀ {vs : List (Str × Int)} {os : List (Str × Str × T)} {ds : List (Str × List Str × Str)} {kd : Str} {t : T} {μ : Mem} {Q : U → Mem → Prop} {E : Str → Mem → Prop}, (os.map (·.1)).Nodup → os.length ≤ 100 → vs.length ≤ 100 → ds.length ≤ 100 → (∀ d ∈ ds, d.1.length ≤ 100) →
    ok (lkT vs os t) → size (lkT vs os t) ≤ 900 →
    ((∀ d ∈ ds, (kOf os d.1).isSome = true) → kd = "com" → (∀ d ∈ ds, d.2.1 = [] ∧ kOf os d.1 = some d.2.2) → ∀ μ', Fr μ μ' → (large (lkT vs os t) → E "TooLarge" μ') ∧ (¬ large (lkT vs os t) → Q (linked vs os t) μ')) →
    ((∃ d ∈ ds, kOf os d.1 = none) → ∀ μ', Fr μ μ' → E "BadName" μ') →
    ((∀ d ∈ ds, (kOf os d.1).isSome = true) → (kd ≠ "com" ∨ ∃ d ∈ ds, d.2.1 ≠ [] ∨ kOf os d.1 ≠ some d.2.2) → ∀ μ', Fr μ μ' → E "BadKind" μ') → wpE (g [moU vs os, clU ds kd t] μ) Q E
theorem link_s {C : Calls} (h3 : LargeS (C 3)) (h4 : WithVS (C 4)) (h5 : CheckS (C 5)) : LinkS (runDef 8 (b_link C)) := by
  constructor
  intro vs os ds kd t μ Q E hnd hol hvl hdl hdn hok hsz q0 q1 q2
  unfold b_link
  walk_at "go"
  refine h5.ap hnd hol hdl hdn (fun a b c μ1 f1 => ?_) q1 q2
  have q' := fun μ2 (f : Fr μ1 μ2) => q0 a b c μ2 (f1.trans f)
  clear q0 q1 q2
  unfold moU clU
  try walk_at "go"
  rw [s_asg]
  try walk_at "go"
  refine ⟨_, rfl, ?_⟩
  simp only [setAll]
  try walk_at "go"
  rw [w_revT rfl, ← List.map_reverse]
  have om : ok (lkT vs os t) := hok
  refine for_seq (fun i s' μ' => μ' = μ1 ∧ ∃ x5 x6 x7, s' = [some (.tup [.tup (vs.map vU), .tup (os.map oU)]), some (.tup [.tup (ds.map dU), .str kd, toU t]), some (.tup (vs.map vU)), some (.tup (os.map oU)), some (toU ((os.reverse.take i).foldl prT t)), x5, x6, x7]) (by simp; omega) ⟨rfl, _, _, _, rfl⟩ ?_ ?_
  · rintro i s' μ' hi ⟨rfl, x5, x6, x7, rfl⟩
    have hi' : i < os.reverse.length := by simpa using hi
    have ei : (os.reverse.map oU)[i] = .tup [.str os.reverse[i].1, .str os.reverse[i].2.1, toU os.reverse[i].2.2] := by simp [oU]
    rw [ei]
    refine ⟨[some (.tup [.tup (vs.map vU), .tup (os.map oU)]), some (.tup [.tup (ds.map dU), .str kd, toU t]), some (.tup (vs.map vU)), some (.tup (os.map oU)), some (toU ((os.reverse.take i).foldl prT t)), some (.str os.reverse[i].1), some (.str os.reverse[i].2.1), some (toU os.reverse[i].2.2)], rfl, ?_⟩
    walk_at "go"
    rw [foldl_take prT t hi', prT_U]
    exact ⟨_, _, _, rfl⟩
  · rintro s' μ' ⟨rfl, x5, x6, x7, rfl⟩
    have e : os.reverse.take (os.reverse.map oU).length = os.reverse := by rw [List.length_map, List.take_length]
    rw [e]
    try walk_at "go"
    refine h4.ap hvl ?_
    try walk_at "go"
    refine h3.ap hok hsz fun b μ2 hb f2 => ?_
    obtain ⟨qa, qb⟩ := q' μ2 f2
    refine ⟨_, rfl, ?_⟩
    cases b with
    | true => rw [if_pos rfl]; exact qa (hb.mp rfl)
    | false =>
      rw [if_neg (by decide)]
      exact qb fun h => by have := hb.mpr h; cases this
/-! the numbers of a script -/
def NumJ (c : Nat) (m : Nat) (μ : Mem) : Prop := ∃ nums : List Int, nums.length ≤ m ∧ μ[c]? = some (.lst (nums.map U.int))
theorem num_push {c m : Nat} {μ : Mem} {nums : List Int} {x : Int} (l : nums.length + 1 ≤ m) (e : μ[c]? = some (.lst (nums.map U.int))) : NumJ c m (μ.set c (.lst (nums.map U.int ++ [.int x]))) :=
  ⟨nums ++ [x], by simpa using l, by rw [get_set e]; simp⟩
theorem big48271 : big64 48271 = true := by decide
theorem big69621 : big64 69621 = true := by decide
theorem big7 : big64 7 = true := by decide
structure StreamS (g : List U → Mem → Res U) : Prop where
  ap : ∀ {ns : List Int} {μ : Mem} {Q : U → Mem → Prop} {E : Str → Mem → Prop}, ns.length ≤ 63 →
    (∀ (nums : List Int) (r : Nat) μ', nums ≠ [] → Fr μ μ' → μ'[r]? = some (.lst (nums.map U.int)) → Q (.ref r) μ') → wpE (g [.frl (ns.map U.int)] μ) Q E
theorem cut63 {us : List U} (h : us.length ≤ 63) : cutU us none (some 63) = us := by
  unfold cutU
  have h1 : HT.sIx us.length 0 none = 0 := rfl
  have h2 : HT.sIx us.length us.length (some 63) = us.length := by
    unfold HT.sIx
    simp
    try omega
  rw [h1, h2]
  simp
theorem stream_s {C : Calls} : StreamS (runDef 6 (b__law_stream C)) := by
  constructor
  intro ns μ Q E hl q
  unfold b__law_stream
  walk_at "go"
  rw [cut63 (by simpa using hl)]
  refine ⟨_, listAt_L get_snoc, ?_⟩
  have f0 : Fr μ (μ ++ [Cell.lst []] ++ [Cell.lst (ns.map U.int)]) := (Fr.refl.snoc).snoc
  have c0 : (μ ++ [Cell.lst []] ++ [Cell.lst (ns.map U.int)])[μ.length]? = some (.lst []) := get_snoc_lt get_snoc
  have cn : (μ ++ [Cell.lst []] ++ [Cell.lst (ns.map U.int)])[(μ ++ [Cell.lst []]).length]? = some (.lst (ns.map U.int)) := get_snoc
  have lx : (μ ++ [Cell.lst []]).length = μ.length + 1 := by simp
  rw [lx] at cn ⊢
  generalize μ ++ [Cell.lst []] ++ [Cell.lst (ns.map U.int)] = μ0 at *
  refine for_live (ns.map U.int) (fun i s' μ' => (∃ x2 x3 x4 x5, s' = [some (.frl (ns.map U.int)), some (.ref μ.length), x2, x3, x4, x5]) ∧ NumJ μ.length (60 * i) μ' ∧ μ'[μ.length + 1]? = some (.lst (ns.map U.int)) ∧ Fr μ μ') (by simp; omega) ⟨⟨_, _, _, _, rfl⟩, ⟨[], by simp, c0⟩, cn, f0⟩ (fun i s μ' h => h.2.2.1) ?_ ?_
  · rintro i s' μ1 hi ⟨⟨x2, x3, x4, x5, rfl⟩, ⟨nums, n1, c1⟩, cn1, f1⟩
    have hi' : i < ns.length := by simpa using hi
    have ei : (ns.map U.int)[i] = .int ns[i] := by simp
    rw [ei]
    refine ⟨[some (.frl (ns.map U.int)), some (.ref μ.length), some (.int ns[i]), x3, x4, x5], rfl, ?_⟩
    walk_at "go"
    split
    · refine for_rng 60 (fun j s' μ' => (∃ (rest : Int) (x4 x5 : Option U), s' = [some (.frl (ns.map U.int)), some (.ref μ.length), some (.int ns[i]), some (.int rest), x4, x5]) ∧ NumJ μ.length (60 * i + j) μ' ∧ μ'[μ.length + 1]? = some (.lst (ns.map U.int)) ∧ Fr μ μ') rfl (by omega) ⟨⟨_, _, _, rfl⟩, ⟨nums, by omega, c1⟩, cn1, f1⟩ ?_ ?_
      · rintro j s'' μ2 hj ⟨⟨rest, y4, y5, rfl⟩, ⟨nums', m1, c2⟩, cn2, f2⟩
        refine ⟨[some (.frl (ns.map U.int)), some (.ref μ.length), some (.int ns[i]), some (.int rest), some (.int j), y5], rfl, ?_⟩
        walk_at "go"
        refine ⟨_, lstU_L c2, ?_⟩
        rw [w_append c2 (by simp [lim]; omega)]
        split
        · have h5 := num_push (m := 60 * (i + 1)) (x := rest.fmod 1009) (by omega) c2
          exact ⟨⟨_, _, _, _, rfl⟩, h5, get_set_ne cn2 (by omega), f2.put (Nat.le_refl _)⟩
        · exact ⟨⟨_, _, _, rfl⟩, num_push (by omega) c2, get_set_ne cn2 (by omega), f2.put (Nat.le_refl _)⟩
      · rintro s'' μ2 ⟨⟨rest, y4, y5, rfl⟩, ⟨nums', m1, c2⟩, cn2, f2⟩
        exact ⟨⟨_, _, _, _, rfl⟩, ⟨nums', by omega, c2⟩, cn2, f2⟩
    · try walk_at "go"
      generalize ns[i].fmod 2147483647 = mx
      refine for_rng 10 (fun j s' μ' => (∃ (mixed : Int) (x3 x4 : Option U), s' = [some (.frl (ns.map U.int)), some (.ref μ.length), some (.int ns[i]), x3, x4, some (.int mixed)]) ∧ NumJ μ.length (60 * i + j) μ' ∧ μ'[μ.length + 1]? = some (.lst (ns.map U.int)) ∧ Fr μ μ') rfl (by omega) ⟨⟨mx, _, _, rfl⟩, ⟨nums, by omega, c1⟩, cn1, f1⟩ ?_ ?_
      · rintro j s'' μ2 hj ⟨⟨mixed, y3, y4, rfl⟩, ⟨nums', m1, c2⟩, cn2, f2⟩
        refine ⟨[some (.frl (ns.map U.int)), some (.ref μ.length), some (.int ns[i]), y3, some (.int j), some (.int mixed)], rfl, ?_⟩
        walk_at "go"
        refine ⟨by rw [big48271, Bool.or_true], by rw [big7, Bool.true_or], ?_⟩
        refine ⟨_, lstU_L c2, by rw [big69621, Bool.or_true], ?_⟩
        rw [w_append c2 (by simp [lim]; omega)]
        exact ⟨⟨_, _, _, rfl⟩, num_push (by omega) c2, get_set_ne cn2 (by omega), f2.put (Nat.le_refl _)⟩
      · rintro s'' μ2 ⟨⟨mixed, y3, y4, rfl⟩, ⟨nums', m1, c2⟩, cn2, f2⟩
        exact ⟨⟨_, _, _, _, rfl⟩, ⟨nums', by omega, c2⟩, cn2, f2⟩
  · rintro s' μ1 ⟨⟨x2, x3, x4, x5, rfl⟩, ⟨nums, n1, c1⟩, cn1, f1⟩
    walk_at "go"
    rw [w_lenL c1]
    walk_at "go"
    by_cases h0 : nums = []
    · subst h0
      rw [if_pos (by simp)]
      refine ⟨_, lstU_L c1, ?_⟩
      rw [w_append c1 (by simp [lim])]
      exact q [0] _ _ (by simp) (f1.put (Nat.le_refl _)) (by rw [get_set c1]; rfl)
    · rw [if_neg (by simp [h0])]
      exact q nums _ _ h0 f1 c1
structure Fx (s : Nat) (μ μ' : Mem) : Prop where
  le : μ.length ≤ μ'.length
  at_ : ∀ (i : Nat) (c : Cell), i ≠ s → μ[i]? = some c → μ'[i]? = some c
theorem Fx.refl {s : Nat} {μ : Mem} : Fx s μ μ := ⟨Nat.le_refl _, fun _ _ _ h => h⟩
theorem Fx.trans {s : Nat} {a b c : Mem} (h : Fx s a b) (g : Fx s b c) : Fx s a c := ⟨Nat.le_trans h.le g.le, fun i d n e => g.at_ i d n (h.at_ i d n e)⟩
theorem Fr.fx {s : Nat} {a b : Mem} (h : Fr a b) : Fx s a b := ⟨h.le, fun i c _ e => h.at_ i c e⟩
theorem Fx.set {s : Nat} {a : Mem} {c : Cell} : Fx s a (a.set s c) := ⟨by simp, fun i d n e => get_set_ne e (Ne.symm n)⟩
theorem Fx.put {s i : Nat} {a b : Mem} {c : Cell} (h : Fx s a b) (l : a.length ≤ i) : Fx s a (b.set i c) := ⟨by simpa using h.le, fun j d n e => get_set_ne (h.at_ j d n e) (by have := get_lt e; omega)⟩
structure St (r s : Nat) (μ : Mem) : Prop where
  ne : r ≠ s
  row : ∃ nums : List Int, nums ≠ [] ∧ μ[r]? = some (.lst (nums.map U.int))
  cnt : ∃ i : Int, μ[s]? = some (.lst [.ref r, .int i])
theorem St.lt {r s : Nat} {μ : Mem} (h : St r s μ) : s < μ.length ∧ r < μ.length := by obtain ⟨i, e⟩ := h.cnt; obtain ⟨n, _, e2⟩ := h.row; exact ⟨get_lt e, get_lt e2⟩
theorem St.fr {r s : Nat} {a b : Mem} (h : St r s a) (f : Fr a b) : St r s b := by
  obtain ⟨n, ⟨nums, p, e⟩, ⟨i, e2⟩⟩ := h
  exact ⟨n, ⟨nums, p, f.at_ _ _ e⟩, ⟨i, f.at_ _ _ e2⟩⟩
theorem St.put {r s i : Nat} {a : Mem} {c : Cell} (h : St r s a) (n1 : i ≠ r) (n2 : i ≠ s) : St r s (a.set i c) := by
  obtain ⟨n, ⟨nums, p, e⟩, ⟨k, e2⟩⟩ := h
  exact ⟨n, ⟨nums, p, get_set_ne e n1⟩, ⟨k, get_set_ne e2 n2⟩⟩
structure Gn (r s : Nat) (a b : Mem) : Prop where
  fx : Fx s a b
  st : St r s b
theorem Gn.refl {r s : Nat} {a : Mem} (h : St r s a) : Gn r s a a := ⟨.refl, h⟩
theorem Gn.trans {r s : Nat} {a b c : Mem} (h : Gn r s a b) (g : Gn r s b c) : Gn r s a c := ⟨h.fx.trans g.fx, g.st⟩
theorem Gn.fr {r s : Nat} {a b c : Mem} (h : Gn r s a b) (f : Fr b c) : Gn r s a c := ⟨h.fx.trans f.fx, h.st.fr f⟩
structure NextS (g : List U → Mem → Res U) : Prop where
  ap : ∀ {r s : Nat} {m : Int} {μ : Mem} {Q : U → Mem → Prop} {E : Str → Mem → Prop}, St r s μ → 0 < m → (∀ (x : Int) μ', 0 ≤ x → x < m → Gn r s μ μ' → Q (.int x) μ') → wpE (g [.ref s, .int m] μ) Q E
theorem pick {us : List U} {i : Int} (h : us ≠ []) : ∃ w ∈ us, atI us (i.fmod (us.length : Int)) = some w := by
  have hl : 0 < (us.length : Int) := by
    have := List.length_pos_iff.mpr h
    omega
  obtain ⟨a1, a2⟩ := Dg.fmod_in (x := i) hl
  obtain ⟨w, b1, b2⟩ := Dg.atI_in a1 a2
  exact ⟨w, b2, b1⟩
theorem next_s {C : Calls} : NextS (runDef 2 (b__law_next C)) := by
  constructor
  intro r s m μ Q E st hm q
  obtain ⟨ne, ⟨nums, hn, e1⟩, ⟨i, e2⟩⟩ := st
  unfold b__law_next
  walk_at "go"
  rw [w_ixL e2]
  refine ⟨_, rfl, ?_⟩
  walk_at "go"
  refine ⟨_, stU_L e2 (j := 1) rfl, ?_⟩
  have c2 : (μ.set s (.lst ([U.ref r, U.int i].set 1 (.int (i + 1)))))[s]? = some (.lst [.ref r, .int (i + 1)]) := get_set e2
  have c1 := get_set_ne (c := .lst ([U.ref r, U.int i].set 1 (.int (i + 1)))) e1 (Ne.symm ne)
  have fx : Fx s μ (μ.set s (.lst ([U.ref r, U.int i].set 1 (.int (i + 1))))) := .set
  generalize μ.set s (.lst ([U.ref r, U.int i].set 1 (.int (i + 1)))) = μ1 at *
  rw [w_ixL c2]
  refine ⟨_, rfl, ?_⟩
  rw [w_ixL c2]
  refine ⟨_, rfl, ?_⟩
  rw [w_ixL c2]
  refine ⟨_, rfl, ?_⟩
  rw [w_lenL c1]
  walk_at "go"
  have hl := List.length_pos_iff.mpr hn
  refine ⟨by simp; omega, ?_⟩
  rw [w_ixL c1]
  obtain ⟨w, w1, w2⟩ := pick (us := nums.map U.int) (i := i + 1) (by simpa using hn)
  refine ⟨w, w2, ?_⟩
  obtain ⟨z, _, rfl⟩ := List.mem_map.mp w1
  walk_at "go"
  obtain ⟨b1, b2⟩ := Dg.fmod_in (x := z) hm
  exact ⟨by omega, q _ μ1 b1 b2 ⟨fx, ne, ⟨nums, hn, c1⟩, ⟨_, c2⟩⟩⟩
/-! bounds of levels -/
def LB (t : T) (b : Nat) : Prop := ∀ l, ∀ p ∈ preL t l, p.2 ≤ l + b
theorem LB.mono {t : T} {a b : Nat} (h : LB t a) (le : a ≤ b) : LB t b := fun l p hp => by have := h l p hp; omega
theorem lvp_le {h : Hd} {ps : List T} {l : Int} : ∀ x ∈ lvp h ps l, x ≤ l + 1 := by
  intro x hx
  unfold lvp at hx
  split at hx
  · rcases List.mem_or_eq_of_mem_set hx with h | h
    · rw [(List.mem_replicate.mp h).2]; omega
    · omega
  · rw [(List.mem_replicate.mp hx).2]; omega
theorem preLs_mem : ∀ {ts : List T} {ls : List Int} {p : T × Int}, p ∈ preLs ts ls → ∃ t ∈ ts, ∃ l ∈ ls, p ∈ preL t l
  | [], _, p, h => by simp [preLs] at h
  | _ :: _, [], p, h => by simp [preLs] at h
  | t :: ts, l :: ls, p, h => by
    simp only [preLs, List.mem_append] at h
    rcases h with h | h
    · exact ⟨t, by simp, l, by simp, h⟩
    · obtain ⟨t', a, l', b, c⟩ := preLs_mem h
      exact ⟨t', by simp [a], l', by simp [b], c⟩
theorem LB_nd {h : Hd} {ps : List T} {b : Nat} (hp : ∀ t ∈ ps, LB t b) : LB (.nd h ps) (b + 1) := by
  intro l p hm
  simp only [preL, List.mem_cons] at hm
  rcases hm with rfl | hm
  · simp only; omega
  · obtain ⟨t, ht, x, hx, hm⟩ := preLs_mem hm
    have h1 := hp t ht x p hm
    have h2 := lvp_le x hx
    omega
theorem LB_0 {h : Hd} : LB (.nd h []) 0 := by
  intro l p hm
  have : preLs [] (lvp h [] l) = [] := by simp [preLs]
  simp only [preL, this, List.mem_singleton] at hm
  rw [hm]
  simp
/-- names in a list -/
structure Nm (m : Nat) (μ : Mem) (nm : Nat) : Prop where
  ap : ∃ xs : List Str, μ[nm]? = some (.lst (xs.map U.str)) ∧ xs.length ≤ m
theorem Nm.ne {m r s nm : Nat} {μ : Mem} (h : Nm m μ nm) (st : St r s μ) : nm ≠ s := by
  rintro rfl
  obtain ⟨xs, e, _⟩ := h.ap
  obtain ⟨i, e2⟩ := st.cnt
  rw [e] at e2
  cases xs with
  | nil => cases e2
  | cons x xs => cases e2
theorem Nm.gn {m r s nm : Nat} {μ μ' : Mem} (h : Nm m μ nm) (st : St r s μ) (g : Gn r s μ μ') : Nm m μ' nm := by
  have ne := h.ne st
  obtain ⟨xs, e, h3⟩ := h.ap
  exact ⟨xs, g.fx.at_ _ _ ne e, h3⟩
theorem Nm.fr {m nm : Nat} {μ μ' : Mem} (h : Nm m μ nm) (f : Fr μ μ') : Nm m μ' nm := by
  obtain ⟨xs, e, h3⟩ := h.ap
  exact ⟨xs, f.at_ _ _ e, h3⟩
mutual
def EB : Nat → Nat
  | 0 => 1
  | n + 1 => 3 * EB n + CB n + 1
def CB : Nat → Nat
  | 0 => 2
  | n + 1 => 2 * CB n + EB n + 3
end
theorem EB_s {n : Nat} : EB (n + 1) = 3 * EB n + CB n + 1 := by rw [EB]
theorem CB_s {n : Nat} : CB (n + 1) = 2 * CB n + EB n + 3 := by rw [CB]
theorem EB_p : ∀ n, 1 ≤ EB n
  | 0 => by simp [EB]
  | n + 1 => by rw [EB_s]; omega
theorem CB_p : ∀ n, 2 ≤ CB n
  | 0 => by simp [CB]
  | n + 1 => by rw [CB_s]; omega
structure ExpS (n : Nat) (g : List U → Mem → Res U) : Prop where
  ap : ∀ {r s nm m : Nat} {d : Int} {μ : Mem} {Q : U → Mem → Prop} {E : Str → Mem → Prop}, St r s μ → Nm m μ nm → d ≤ n → m + n ≤ 900 →
    (∀ (t : T) μ', ok t → size t ≤ EB n → LB t (2 * n) → Gn r s μ μ' → Q (toU t) μ') → wpE (g [.ref s, .ref nm, .int d] μ) Q E
structure ComS (n : Nat) (g : List U → Mem → Res U) : Prop where
  ap : ∀ {r s nm m : Nat} {d : Int} {μ : Mem} {Q : U → Mem → Prop} {E : Str → Mem → Prop}, St r s μ → Nm m μ nm → d ≤ n → m + n ≤ 900 →
    (∀ (t : T) μ', ok t → size t ≤ CB n → LB t (2 * n + 1) → Gn r s μ μ' → Q (toU t) μ') → wpE (g [.ref s, .ref nm, .int d] μ) Q E
theorem smS {x : Str} : smU (.str x) := ⟨rfl, by simp [dp]⟩
theorem smI {x : Int} : smU (.int x) := ⟨rfl, by simp [dp]⟩
theorem all1 {P : T → Prop} {a : T} (h : P a) : ∀ t ∈ [a], P t := fun t ht => by rw [List.mem_singleton.mp ht]; exact h
theorem all2 {P : T → Prop} {a b : T} (h : P a) (g : P b) : ∀ t ∈ [a, b], P t := fun t ht => by
  simp only [List.mem_cons, List.not_mem_nil, or_false] at ht
  rcases ht with rfl | rfl
  · exact h
  · exact g
theorem all3 {P : T → Prop} {a b c : T} (h : P a) (g : P b) (f : P c) : ∀ t ∈ [a, b, c], P t := fun t ht => by
  simp only [List.mem_cons, List.not_mem_nil, or_false] at ht
  rcases ht with rfl | rfl | rfl
  · exact h
  · exact g
  · exact f
theorem Nm.wide {m nm k : Nat} {μ μ' : Mem} (h : Nm m μ nm) {x : Str} (c : ∀ xs : List Str, μ[nm]? = some (.lst (xs.map U.str)) → μ'[k]? = some (.lst (xs.map U.str ++ [.str x]))) : Nm (m + 1) μ' k := by
  obtain ⟨xs, e, l⟩ := h.ap
  exact ⟨xs ++ [x], by rw [c xs e]; simp, by simp; omega⟩
def DQ (Q : U → Mem → Prop) (E : Str → Mem → Prop) : Dn := ⟨fun _ μ' => Q .non μ', Q, fun _ _ => False, fun _ _ => False, fun c _ μ' => E c μ'⟩
def xE4 (C : Calls) : FS :=
    (sSeq (sAsg (.one 4) (fDef 3 (C 10) (aCons (fVar 0) (aCons (fVar 1) (aCons (fOp uSub (fVar 2) (fC (.int 1))) aNil)))))
    (sSeq (sIf (tstB (fOp uEq (fVar 3) (fC (.int 4)))) (sSeq (sAsg (.one 5) (fDef 3 (C 10) (aCons (fVar 0) (aCons (fVar 1) (aCons (fOp uSub (fVar 2) (fC (.int 1))) aNil)))))
    (sRet (fTup (aCons (fC (.str "if")) (aCons (fVar 4) (aCons (fVar 5) (aCons (fDef 3 (C 10) (aCons (fVar 0) (aCons (fVar 1) (aCons (fOp uSub (fVar 2) (fC (.int 1))) aNil)))) aNil))))))) sNext)
    (sSeq (sIf (tstB (fOp uEq (fVar 3) (fC (.int 5)))) (sRet (fTup (aCons (fC (.str "do")) (aCons (fDef 3 (C 11) (aCons (fVar 0) (aCons (fVar 1) (aCons (fOp uSub (fVar 2) (fC (.int 1))) aNil)))) (aCons (fVar 4) aNil))))) sNext)
    (sSeq (sIf (tstB (fOp uEq (fVar 3) (fC (.int 6)))) (sRet (fTup (aCons (fC (.str "new")) (aCons (fC (.str "loc")) (aCons (fVar 4) (aCons (fDef 3 (C 10) (aCons (fVar 0) (aCons (fOp uAdd (fVar 1) (fLst (aCons (fC (.str "loc")) aNil))) (aCons (fOp uSub (fVar 2) (fC (.int 1))) aNil)))) aNil)))))) sNext)
    (sSeq (sAsg (.one 6) (fOp ixU (fLst (aCons (fC (.str "add")) (aCons (fC (.str "sub")) (aCons (fC (.str "mul")) (aCons (fC (.str "equal")) (aCons (fC (.str "less")) aNil)))))) (fDef 2 (C 9) (aCons (fVar 0) (aCons (fC (.int 5)) aNil)))))
    (sRet (fTup (aCons (fVar 6) (aCons (fVar 4) (aCons (fDef 3 (C 10) (aCons (fVar 0) (aCons (fVar 1) (aCons (fOp uSub (fVar 2) (fC (.int 1))) aNil)))) aNil))))))))))
def xE2 (C : Calls) : FS :=
    (sSeq (sIf (tstB (fOp uLt (fVar 3) (fC (.int 3)))) (sRet (fTup (aCons (fC (.str "read")) (aCons (fOp ixU (fVar 1) (fDef 2 (C 9) (aCons (fVar 0) (aCons (fCall bLen (aCons (fVar 1) aNil)) aNil)))) aNil)))) sNext)
    (sSeq (sIf (tAn (tstB (fOp uEq (fVar 3) (fC (.int 3)))) (tstB (fOp uEq (fDef 2 (C 9) (aCons (fVar 0) (aCons (fC (.int 4)) aNil))) (fC (.int 0))))) (sRet (fOp ixU (fLst (aCons (fTup (aCons (fC (.str "stop")) aNil)) (aCons (fTup (aCons (fC (.str "fault")) aNil)) aNil))) (fDef 2 (C 9) (aCons (fVar 0) (aCons (fC (.int 2)) aNil))))) sNext)
    (xE4 C)))
theorem xE_is (C : Calls) : b__law_exp C = (sSeq (sAsg (.one 3) (fDef 2 (C 9) (aCons (fVar 0) (aCons (fOp ixU (fLst (aCons (fC (.int 3)) (aCons (fC (.int 9)) aNil))) (fCall bInt (aCons (fOp uGt (fVar 2) (fC (.int 0))) aNil))) aNil))))
    (sSeq (sIf (tOr' (tstB (fOp uEq (fVar 3) (fC (.int 0)))) (tAn (tstB (fOp uEq (fCall bLen (aCons (fVar 1) aNil)) (fC (.int 0)))) (tstB (fOp uLt (fVar 3) (fC (.int 3)))))) (sRet (fTup (aCons (fC (.str "num")) (aCons (fDef 2 (C 9) (aCons (fVar 0) (aCons (fC (.int 3)) aNil))) aNil)))) sNext)
    (xE2 C))) := rfl
theorem xE4_ok {C : Calls} {n r s nm m : Nat} {d x : Int} {μ μ2 : Mem} {Q : U → Mem → Prop} {E : Str → Mem → Prop} (h9 : NextS (C 9)) (h10 : ExpS n (C 10)) (h11 : ComS n (C 11)) (st : St r s μ) (hn : Nm m μ nm) (hd : d ≤ n + 1) (hm : m + n + 1 ≤ 900)
    (q : ∀ (t : T) μ', ok t → size t ≤ EB (n + 1) → LB t (2 * (n + 1)) → Gn r s μ μ' → Q (toU t) μ') (g2 : Gn r s μ μ2) : Dg.wpS (xE4 C [some (.ref s), some (.ref nm), some (.int d), some (.int x), none, none, none] μ2) (DQ Q E) := by
  unfold xE4 DQ
  walk_at "go"
  have hE := EB_p n
  have hC := CB_p n
  refine h10.ap g2.st (hn.gn st g2) (by omega) (by omega) fun t1 μ3 o1 z1 b1 g3 => ?_
  have g23 := g2.trans g3
  by_cases x4 : x = 4
  · rw [if_pos x4]
    refine h10.ap g23.st (hn.gn st g23) (by omega) (by omega) fun t2 μ4 o2 z2 b2 g4 => ?_
    have g24 := g23.trans g4
    refine h10.ap g24.st (hn.gn st g24) (by omega) (by omega) fun t3 μ5 o3 z3 b3 g5 => ?_
    have := q (.nd .iff [t1, t2, t3]) μ5 ⟨trivial, rfl, trivial, o1, o2, o3, trivial⟩ (by simp only [size, sizes, EB_s]; omega) ((LB_nd (all3 b1 b2 b3)).mono (by omega)) (g24.trans g5)
    simp only [toU, toUs_map, bld, List.map_cons, List.map_nil] at this
    exact this
  rw [if_neg x4]
  by_cases x5 : x = 5
  · rw [if_pos x5]
    refine h11.ap g23.st (hn.gn st g23) (by omega) (by omega) fun t2 μ4 o2 z2 b2 g4 => ?_
    have := q (.nd .dd [t2, t1]) μ4 ⟨trivial, rfl, trivial, o2, o1, trivial⟩ (by simp only [size, sizes, EB_s]; omega) ((LB_nd (all2 b2 (b1.mono (by omega)))).mono (by omega)) (g23.trans g4)
    simp only [toU, toUs_map, bld, List.map_cons, List.map_nil] at this
    exact this
  rw [if_neg x5]
  by_cases x6 : x = 6
  · rw [if_pos x6]
    have hn3 := hn.gn st g23
    obtain ⟨xs, ce, hl⟩ := hn3.ap
    have f4 : Fr μ3 (μ3 ++ [Cell.lst [U.str "loc"]]) := Fr.refl.snoc
    rw [w_addL' (f4.at_ _ _ ce) get_snoc (by simp [lim]; omega)]
    have g4 := g23.fr (f4.snoc (c := .lst (xs.map U.str ++ [U.str "loc"])))
    have hn4 : Nm (m + 1) (μ3 ++ [Cell.lst [U.str "loc"]] ++ [Cell.lst (xs.map U.str ++ [U.str "loc"])]) (μ3 ++ [Cell.lst [U.str "loc"]]).length := ⟨⟨xs ++ [("loc" : Str)], by rw [get_snoc]; simp, by simp; omega⟩⟩
    refine h10.ap g4.st hn4 (by omega) (by omega) fun t2 μ5 o2 z2 b2 g5 => ?_
    have := q (.nd (.nw (.str "loc")) [t1, t2]) μ5 ⟨smS, rfl, trivial, o1, o2, trivial⟩ (by simp only [size, sizes, EB_s]; omega) ((LB_nd (all2 b1 b2)).mono (by omega)) (g4.trans g5)
    simp only [toU, toUs_map, bld, List.map_cons, List.map_nil] at this
    exact this
  rw [if_neg x6]
  have f4 : Fr μ3 (μ3 ++ [Cell.lst [U.str "add", .str "sub", .str "mul", .str "equal", .str "less"]]) := Fr.refl.snoc
  have g4 := g23.fr f4
  have c4 : (μ3 ++ [Cell.lst [U.str "add", .str "sub", .str "mul", .str "equal", .str "less"]])[μ3.length]? = some (.lst [U.str "add", .str "sub", .str "mul", .str "equal", .str "less"]) := get_snoc
  have ls : μ3.length ≠ s := by have := g23.st.lt.1; omega
  generalize μ3 ++ [Cell.lst [U.str "add", .str "sub", .str "mul", .str "equal", .str "less"]] = μ4 at *
  refine h9.ap g4.st (by omega) fun y μ5 y0 y1 g5 => ?_
  rw [w_ixL (g5.fx.at_ _ _ ls c4)]
  obtain ⟨w, w1, w2⟩ := Dg.atI_in (xs := [U.str "add", .str "sub", .str "mul", .str "equal", .str "less"]) y0 y1
  refine ⟨w, w1, ?_⟩
  obtain ⟨z, hz, rfl⟩ : ∃ z : Str, z ∈ (["add", "sub", "mul", "equal", "less"] : List Str) ∧ w = .str z := by
    simp only [List.mem_cons, List.not_mem_nil, or_false] at w2
    rcases w2 with rfl | rfl | rfl | rfl | rfl <;> exact ⟨_, by simp, rfl⟩
  have g45 := g4.trans g5
  refine h10.ap g45.st (hn.gn st g45) (by omega) (by omega) fun t2 μ6 o2 z2 b2 g6 => ?_
  have := q (.nd (.op z) [t1, t2]) μ6 ⟨hz, rfl, trivial, o1, o2, trivial⟩ (by simp only [size, sizes, EB_s]; omega) ((LB_nd (all2 b1 b2)).mono (by omega)) (g45.trans g6)
  simp only [toU, toUs_map, bld, List.map_cons, List.map_nil] at this
  exact this
theorem xE2_ok {C : Calls} {n r s nm m : Nat} {d x : Int} {μ μ2 : Mem} {Q : U → Mem → Prop} {E : Str → Mem → Prop} (h9 : NextS (C 9)) (hrec : ∀ k, n = k + 1 → ExpS k (C 10) ∧ ComS k (C 11)) (st : St r s μ) (hn : Nm m μ nm) (hd : d ≤ n) (hm : m + n ≤ 900)
    (q : ∀ (t : T) μ', ok t → size t ≤ EB n → LB t (2 * n) → Gn r s μ μ' → Q (toU t) μ') (g2 : Gn r s μ μ2) (hne : x < 3 → ∃ xs : List Str, μ2[nm]? = some (.lst (xs.map U.str)) ∧ xs ≠ []) (hx : d ≤ 0 → x < 3) : Dg.wpS (xE2 C [some (.ref s), some (.ref nm), some (.int d), some (.int x), none, none, none] μ2) (DQ Q E) := by
  unfold xE2
  by_cases h3 : x < 3
  · obtain ⟨xs, ce, hx0⟩ := hne h3
    have hns : nm ≠ s := by
      rintro rfl
      obtain ⟨i, e2⟩ := g2.st.cnt
      rw [ce] at e2
      cases xs with
      | nil => exact hx0 rfl
      | cons y ys => cases e2
    walk_at "go"
    unfold DQ
    walk_at "go"
    rw [if_pos h3, w_lenL ce]
    have hl := List.length_pos_iff.mpr hx0
    refine h9.ap g2.st (by simp; omega) fun y μ3 y0 y1 g3 => ?_
    rw [w_ixL (g3.fx.at_ _ _ hns ce)]
    obtain ⟨w, w1, w2⟩ := Dg.atI_in (xs := xs.map U.str) y0 (by simpa using y1)
    refine ⟨w, w1, ?_⟩
    obtain ⟨z, _, rfl⟩ := List.mem_map.mp w2
    have := q (.nd (.x "read" (.str z)) []) μ3 ⟨⟨by simp, smS⟩, rfl, trivial, trivial⟩ (by have := EB_p n; simp only [size, sizes]; omega) (LB_0.mono (by omega)) (g2.trans g3)
    simp only [toU, toUs_map, bld] at this
    exact this
  · obtain ⟨k, rfl⟩ : ∃ k, n = k + 1 := ⟨n - 1, by have := fun h => h3 (hx h); omega⟩
    obtain ⟨h10, h11⟩ := hrec k rfl
    have rest : ∀ μ3, Gn r s μ μ3 → Dg.wpS (xE4 C [some (.ref s), some (.ref nm), some (.int d), some (.int x), none, none, none] μ3) (DQ Q E) := fun μ3 g => xE4_ok h9 h10 h11 st hn (by omega) (by omega) q g
    unfold DQ at rest ⊢
    walk_at "go"
    rw [if_neg h3]
    by_cases e3 : x = 3
    · rw [if_pos e3]
      refine h9.ap g2.st (by omega) fun y μ3 y0 y1 g3 => ?_
      have g23 := g2.trans g3
      try walk_at "go"
      split
      · have f4 : Fr μ3 (μ3 ++ [Cell.lst [U.tup [.str "stop"], .tup [.str "fault"]]]) := Fr.refl.snoc
        have g4 := g23.fr f4
        have c4 : (μ3 ++ [Cell.lst [U.tup [.str "stop"], .tup [.str "fault"]]])[μ3.length]? = some (.lst [U.tup [.str "stop"], .tup [.str "fault"]]) := get_snoc
        have ls : μ3.length ≠ s := by have := g23.st.lt.1; omega
        generalize μ3 ++ [Cell.lst [U.tup [.str "stop"], .tup [.str "fault"]]] = μ4 at *
        refine h9.ap g4.st (by omega) fun z μ5 z0 z1 g5 => ?_
        rw [w_ixL (g5.fx.at_ _ _ ls c4)]
        obtain ⟨w, w1, w2⟩ := Dg.atI_in (xs := [U.tup [.str "stop"], .tup [.str "fault"]]) z0 z1
        refine ⟨w, w1, ?_⟩
        have lf : ∀ z : Str, z ∈ (["skip", "stop", "fault"] : List Str) → Q (.tup [.str z]) μ5 := fun z hz => by
          have := q (.nd (.z z) []) μ5 ⟨hz, rfl, trivial, trivial⟩ (by have := EB_p (k + 1); simp only [size, sizes]; omega) (LB_0.mono (by omega)) (g4.trans g5)
          simp only [toU, toUs_map, bld] at this
          exact this
        simp only [List.mem_cons, List.not_mem_nil, or_false] at w2
        rcases w2 with rfl | rfl
        · exact lf "stop" (by simp)
        · exact lf "fault" (by simp)
      · exact rest μ3 g23
    · rw [if_neg e3]
      exact rest μ2 g2
theorem exp_s {C : Calls} {n : Nat} (h9 : NextS (C 9)) (hrec : ∀ k, n = k + 1 → ExpS k (C 10) ∧ ComS k (C 11)) : ExpS n (runDef 7 (b__law_exp C)) := by
  constructor
  intro r s nm m d μ Q E st hn hd hm q
  rw [xE_is]
  walk_at "go"
  have f0 : Fr μ (μ ++ [Cell.lst [U.int 3, U.int 9]]) := Fr.refl.snoc
  rw [w_ixL get_snoc]
  obtain ⟨w, hw, hw0, hwd⟩ : ∃ w : Int, atI [U.int 3, U.int 9] (if 0 < d then 1 else 0) = some (.int w) ∧ 0 < w ∧ (d ≤ 0 → w = 3) := by
    by_cases h : 0 < d
    · rw [if_pos h]
      exact ⟨9, rfl, by omega, by omega⟩
    · rw [if_neg h]
      exact ⟨3, rfl, by omega, fun _ => rfl⟩
  refine ⟨_, hw, ?_⟩
  have g0 : Gn r s μ (μ ++ [Cell.lst [U.int 3, U.int 9]]) := ⟨f0.fx, st.fr f0⟩
  generalize μ ++ [Cell.lst [U.int 3, U.int 9]] = μ0 at *
  refine h9.ap g0.st hw0 fun x μ1 x0 x1 g1 => ?_
  have g01 := g0.trans g1
  have numq : wpE (C 9 [.ref s, .int 3] μ1) (fun u μ1 => Q (.tup [.str "num", u]) μ1) (fun c μ => E c μ) := by
    refine h9.ap g01.st (by omega) fun y μ3 _ _ g3 => ?_
    have := q (.nd (.x "num" (.int y)) []) μ3 ⟨⟨by simp, smI⟩, rfl, trivial, trivial⟩ (by have := EB_p n; simp only [size, sizes]; omega) (LB_0.mono (by omega)) (g01.trans g3)
    simp only [toU, toUs_map, bld] at this
    exact this
  obtain ⟨xs, ce, hl⟩ := (hn.gn st g01).ap
  have rest : (x < 3 → xs ≠ []) → Dg.wpS (xE2 C [some (.ref s), some (.ref nm), some (.int d), some (.int x), none, none, none] μ1) (DQ Q E) := fun h => xE2_ok h9 hrec st hn hd hm q g01 (fun h3 => ⟨xs, ce, h h3⟩) (fun h0 => by rw [hwd h0] at x1; exact x1)
  unfold DQ at rest
  try walk_at "go"
  by_cases x00 : x = 0
  · rw [if_pos x00]
    exact numq
  rw [if_neg x00, w_lenL ce]
  try walk_at "go"
  by_cases hx0 : xs = []
  · rw [if_pos (by simp [hx0])]
    by_cases h3 : x < 3
    · rw [if_pos h3]; exact numq
    · rw [if_neg h3]; exact rest fun h => absurd h h3
  · rw [if_neg (by simp [hx0])]
    exact rest fun _ => hx0
def xC4 (C : Calls) : FS :=
    (sSeq (sAsg (.one 6) (fDef 3 (C 10) (aCons (fVar 0) (aCons (fVar 1) (aCons (fOp uSub (fVar 2) (fC (.int 1))) aNil)))))
    (sSeq (sIf (tstB (fOp uEq (fVar 3) (fC (.int 5)))) (sRet (fTup (aCons (fC (.str "while")) (aCons (fVar 6) (aCons (fDef 3 (C 11) (aCons (fVar 0) (aCons (fVar 1) (aCons (fOp uSub (fVar 2) (fC (.int 1))) aNil)))) aNil))))) sNext)
    (sSeq (sIf (tstB (fOp uEq (fVar 3) (fC (.int 6)))) (sRet (fTup (aCons (fC (.str "new")) (aCons (fC (.str "loc")) (aCons (fVar 6) (aCons (fDef 3 (C 11) (aCons (fVar 0) (aCons (fOp uAdd (fVar 1) (fLst (aCons (fC (.str "loc")) aNil))) (aCons (fOp uSub (fVar 2) (fC (.int 1))) aNil)))) aNil)))))) sNext)
    (sSeq (sAsg (.one 4) (fDef 3 (C 11) (aCons (fVar 0) (aCons (fVar 1) (aCons (fOp uSub (fVar 2) (fC (.int 1))) aNil)))))
    (sRet (fTup (aCons (fC (.str "if")) (aCons (fVar 6) (aCons (fVar 4) (aCons (fDef 3 (C 11) (aCons (fVar 0) (aCons (fVar 1) (aCons (fOp uSub (fVar 2) (fC (.int 1))) aNil)))) aNil))))))))))
def xC3 (C : Calls) : FS :=
    (sSeq (sIf (tstB (fOp uLt (fVar 3) (fC (.int 5)))) (sSeq (sAsg (.one 4) (fDef 3 (C 11) (aCons (fVar 0) (aCons (fVar 1) (aCons (fOp uSub (fVar 2) (fC (.int 1))) aNil)))))
    (sSeq (sAsg (.one 5) (fDef 3 (C 11) (aCons (fVar 0) (aCons (fVar 1) (aCons (fOp uSub (fVar 2) (fC (.int 1))) aNil)))))
    (sSeq (sIf (tstB (fOp uEq (fOp ixU (fVar 5) (fC (.int 0))) (fC (.str "seq")))) (sRet (fTup (aCons (fC (.str "seq")) (aCons (fTup (aCons (fC (.str "block")) (aCons (fC (.str "lab")) (aCons (fVar 4) aNil)))) (aCons (fTup (aCons (fC (.str "block")) (aCons (fC (.str "lab")) (aCons (fVar 5) aNil)))) aNil))))) sNext)
    (sRet (fTup (aCons (fC (.str "seq")) (aCons (fVar 4) (aCons (fVar 5) aNil)))))))) sNext)
    (xC4 C))
def xC2 (C : Calls) : FS :=
    (sSeq (sIf (tOr' (tstB (fOp uLt (fVar 3) (fC (.int 3)))) (tstB (fOp uLe (fVar 2) (fC (.int 0))))) (sRet (fTup (aCons (fC (.str "set")) (aCons (fOp ixU (fVar 1) (fDef 2 (C 9) (aCons (fVar 0) (aCons (fCall bLen (aCons (fVar 1) aNil)) aNil)))) (aCons (fDef 3 (C 10) (aCons (fVar 0) (aCons (fVar 1) (aCons (fOp uSub (fVar 2) (fC (.int 1))) aNil)))) aNil))))) sNext)
    (xC3 C))
theorem xC_is (C : Calls) : b__law_com C = (sSeq (sAsg (.one 3) (fDef 2 (C 9) (aCons (fVar 0) (aCons (fOp ixU (fLst (aCons (fC (.int 2)) (aCons (fC (.int 9)) aNil))) (fCall bInt (aCons (fOp uGt (fVar 2) (fC (.int 0))) aNil))) aNil))))
    (sSeq (sIf (tOr' (tstB (fOp uEq (fVar 3) (fC (.int 0)))) (tAn (tstB (fOp uEq (fCall bLen (aCons (fVar 1) aNil)) (fC (.int 0)))) (tstB (fOp uLt (fVar 3) (fC (.int 3)))))) (sRet (fOp ixU (fLst (aCons (fTup (aCons (fC (.str "skip")) aNil)) (aCons (fTup (aCons (fC (.str "skip")) aNil)) (aCons (fTup (aCons (fC (.str "skip")) aNil)) (aCons (fTup (aCons (fC (.str "fault")) aNil)) (aCons (fTup (aCons (fC (.str "stop")) aNil)) aNil)))))) (fOp uMul (fDef 2 (C 9) (aCons (fVar 0) (aCons (fC (.int 5)) aNil))) (fCall bInt (aCons (fOp uGt (fVar 2) (fC (.int 0))) aNil))))) sNext)
    (xC2 C))) := rfl
theorem loc_nm {m r s nm : Nat} {μ μ3 : Mem} (hn : Nm m μ nm) (st : St r s μ) (g : Gn r s μ μ3) (hm : m ≤ 900) : ∃ xs : List Str, μ3[nm]? = some (.lst (xs.map U.str)) ∧ xs.length ≤ m ∧ Gn r s μ (μ3 ++ [Cell.lst [U.str "loc"]] ++ [Cell.lst (xs.map U.str ++ [U.str "loc"])]) ∧ Nm (m + 1) (μ3 ++ [Cell.lst [U.str "loc"]] ++ [Cell.lst (xs.map U.str ++ [U.str "loc"])]) (μ3 ++ [Cell.lst [U.str "loc"]]).length := by
  obtain ⟨xs, ce, hl⟩ := (hn.gn st g).ap
  have f4 : Fr μ3 (μ3 ++ [Cell.lst [U.str "loc"]]) := Fr.refl.snoc
  exact ⟨xs, ce, hl, g.fr (f4.snoc (c := .lst (xs.map U.str ++ [U.str "loc"]))), ⟨⟨xs ++ [("loc" : Str)], by rw [get_snoc]; simp, by simp; omega⟩⟩⟩
theorem xC4_ok {C : Calls} {n r s nm m : Nat} {d x : Int} {μ μ2 : Mem} {Q : U → Mem → Prop} {E : Str → Mem → Prop} (h10 : ExpS n (C 10)) (h11 : ComS n (C 11)) (st : St r s μ) (hn : Nm m μ nm) (hd : d ≤ n + 1) (hm : m + n + 1 ≤ 900)
    (q : ∀ (t : T) μ', ok t → size t ≤ CB (n + 1) → LB t (2 * (n + 1) + 1) → Gn r s μ μ' → Q (toU t) μ') (g2 : Gn r s μ μ2) : Dg.wpS (xC4 C [some (.ref s), some (.ref nm), some (.int d), some (.int x), none, none, none] μ2) (DQ Q E) := by
  unfold xC4 DQ
  walk_at "go"
  have hE := EB_p n
  have hC := CB_p n
  refine h10.ap g2.st (hn.gn st g2) (by omega) (by omega) fun t1 μ3 o1 z1 b1 g3 => ?_
  have g23 := g2.trans g3
  by_cases x5 : x = 5
  · rw [if_pos x5]
    refine h11.ap g23.st (hn.gn st g23) (by omega) (by omega) fun t2 μ4 o2 z2 b2 g4 => ?_
    have := q (.nd .wh [t1, t2]) μ4 ⟨trivial, rfl, trivial, o1, o2, trivial⟩ (by simp only [size, sizes, CB_s]; omega) ((LB_nd (all2 (b1.mono (by omega)) b2)).mono (by omega)) (g23.trans g4)
    simp only [toU, toUs_map, bld, List.map_cons, List.map_nil] at this
    exact this
  rw [if_neg x5]
  by_cases x6 : x = 6
  · rw [if_pos x6]
    obtain ⟨xs, ce, hl, g4, hn4⟩ := loc_nm hn st g23 (by omega)
    rw [w_addL' (get_snoc_lt ce) get_snoc (by simp [lim]; omega)]
    refine h11.ap g4.st hn4 (by omega) (by omega) fun t2 μ5 o2 z2 b2 g5 => ?_
    have := q (.nd (.nw (.str "loc")) [t1, t2]) μ5 ⟨smS, rfl, trivial, o1, o2, trivial⟩ (by simp only [size, sizes, CB_s]; omega) ((LB_nd (all2 (b1.mono (by omega)) b2)).mono (by omega)) (g4.trans g5)
    simp only [toU, toUs_map, bld, List.map_cons, List.map_nil] at this
    exact this
  rw [if_neg x6]
  refine h11.ap g23.st (hn.gn st g23) (by omega) (by omega) fun t2 μ4 o2 z2 b2 g4 => ?_
  have g24 := g23.trans g4
  refine h11.ap g24.st (hn.gn st g24) (by omega) (by omega) fun t3 μ5 o3 z3 b3 g5 => ?_
  have := q (.nd .iff [t1, t2, t3]) μ5 ⟨trivial, rfl, trivial, o1, o2, o3, trivial⟩ (by simp only [size, sizes, CB_s]; omega) ((LB_nd (all3 (b1.mono (by omega)) b2 b3)).mono (by omega)) (g24.trans g5)
  simp only [toU, toUs_map, bld, List.map_cons, List.map_nil] at this
  exact this
theorem xC3_ok {C : Calls} {n r s nm m : Nat} {d x : Int} {μ μ2 : Mem} {Q : U → Mem → Prop} {E : Str → Mem → Prop} (h10 : ExpS n (C 10)) (h11 : ComS n (C 11)) (st : St r s μ) (hn : Nm m μ nm) (hd : d ≤ n + 1) (hm : m + n + 1 ≤ 900)
    (q : ∀ (t : T) μ', ok t → size t ≤ CB (n + 1) → LB t (2 * (n + 1) + 1) → Gn r s μ μ' → Q (toU t) μ') (g2 : Gn r s μ μ2) : Dg.wpS (xC3 C [some (.ref s), some (.ref nm), some (.int d), some (.int x), none, none, none] μ2) (DQ Q E) := by
  have rest := xC4_ok (x := x) (E := E) h10 h11 st hn hd hm q g2
  have hE := EB_p n
  have hC := CB_p n
  unfold xC3 DQ
  unfold DQ at rest
  walk_at "go"
  by_cases x5 : x < 5
  · rw [if_pos x5]
    refine h11.ap g2.st (hn.gn st g2) (by omega) (by omega) fun t1 μ3 o1 z1 b1 g3 => ?_
    have g23 := g2.trans g3
    refine h11.ap g23.st (hn.gn st g23) (by omega) (by omega) fun t2 μ4 o2 z2 b2 g4 => ?_
    have g24 := g23.trans g4
    obtain ⟨h2, ps2⟩ := t2
    obtain ⟨tg, tl, e, es⟩ := hd_tag o2
    have e' := e
    rw [e]
    try walk_at "go"
    by_cases ht : tg = "seq"
    · rw [if_pos (by simpa using ht)]
      have ob : ok (.nd (.blk (.str "lab")) [.nd h2 ps2]) := ⟨smS, rfl, trivial, o2, trivial⟩
      have oa : ok (.nd (.blk (.str "lab")) [t1]) := ⟨smS, rfl, trivial, o1, trivial⟩
      have := q (.nd .seq [.nd (.blk (.str "lab")) [t1], .nd (.blk (.str "lab")) [.nd h2 ps2]]) μ4 ⟨trivial, rfl, ⟨_, _, rfl, rfl⟩, oa, ob, trivial⟩ (by simp only [size, sizes, CB_s] at *; omega) ((LB_nd (all2 (LB_nd (all1 b1)) (LB_nd (all1 b2)))).mono (by omega)) g24
      rw [toU_seq] at this
      rw [← e]
      exact this
    · rw [if_neg (by simpa using ht)]
      have hs : isSq (.nd h2 ps2) = false := by
        have : h2 ≠ .seq := fun hh => ht (es.mpr hh)
        cases h2 <;> first | rfl | exact absurd rfl this
      have := q (.nd .seq [t1, .nd h2 ps2]) μ4 ⟨trivial, rfl, ⟨_, _, rfl, hs⟩, o1, o2, trivial⟩ (by simp only [size, sizes, CB_s] at *; omega) ((LB_nd (all2 b1 b2)).mono (by omega)) g24
      rw [toU_seq] at this
      rw [← e]
      exact this
  · rw [if_neg x5]
    exact rest
theorem com_s {C : Calls} {n : Nat} (h9 : NextS (C 9)) (h10 : ExpS (n - 1) (C 10)) (hrec : ∀ k, n = k + 1 → ComS k (C 11)) : ComS n (runDef 7 (b__law_com C)) := by
  constructor
  intro r s nm m d μ Q E st hn hd hm q
  rw [xC_is]
  walk_at "go"
  have f0 : Fr μ (μ ++ [Cell.lst [U.int 2, U.int 9]]) := Fr.refl.snoc
  rw [w_ixL get_snoc]
  obtain ⟨w, hw, hw0, hwd⟩ : ∃ w : Int, atI [U.int 2, U.int 9] (if 0 < d then 1 else 0) = some (.int w) ∧ 0 < w ∧ (d ≤ 0 → w = 2) := by
    by_cases h : 0 < d
    · rw [if_pos h]
      exact ⟨9, rfl, by omega, by omega⟩
    · rw [if_neg h]
      exact ⟨2, rfl, by omega, fun _ => rfl⟩
  refine ⟨_, hw, ?_⟩
  have g0 : Gn r s μ (μ ++ [Cell.lst [U.int 2, U.int 9]]) := ⟨f0.fx, st.fr f0⟩
  generalize μ ++ [Cell.lst [U.int 2, U.int 9]] = μ0 at *
  refine h9.ap g0.st hw0 fun x μ1 x0 x1 g1 => ?_
  have g01 := g0.trans g1
  have leaf : wpE (C 9 [U.ref s, U.int 5] (μ1 ++ [Cell.lst [U.tup [.str "skip"], .tup [.str "skip"], .tup [.str "skip"], .tup [.str "fault"], .tup [.str "stop"]]])) (fun u μa => wpE (uMul u (U.int (if 0 < d then 1 else 0)) μa) (fun w μ2 => wpE (ixU (U.ref μ1.length) w μ2) (fun u μ1 => Q u μ1) fun c μ => E c μ) fun c μ => E c μ) (fun c μ => E c μ) := by
    have f4 : Fr μ1 (μ1 ++ [Cell.lst [U.tup [.str "skip"], .tup [.str "skip"], .tup [.str "skip"], .tup [.str "fault"], .tup [.str "stop"]]]) := Fr.refl.snoc
    have g4 := g01.fr f4
    have c4 : (μ1 ++ [Cell.lst [U.tup [.str "skip"], .tup [.str "skip"], .tup [.str "skip"], .tup [.str "fault"], .tup [.str "stop"]]])[μ1.length]? = some (.lst [U.tup [.str "skip"], .tup [.str "skip"], .tup [.str "skip"], .tup [.str "fault"], .tup [.str "stop"]]) := get_snoc
    have ls : μ1.length ≠ s := by have := g01.st.lt.1; omega
    generalize μ1 ++ [Cell.lst [U.tup [.str "skip"], .tup [.str "skip"], .tup [.str "skip"], .tup [.str "fault"], .tup [.str "stop"]]] = μ4 at *
    refine h9.ap g4.st (by omega) fun y μ5 y0 y1 g5 => ?_
    try walk_at "go"
    refine ⟨by rw [show big64 y = true by simp [big64]; omega, Bool.true_or], ?_⟩
    rw [w_ixL (g5.fx.at_ _ _ ls c4)]
    have hb : 0 ≤ y * (if 0 < d then 1 else 0) ∧ y * (if 0 < d then 1 else 0) < 5 := by split <;> omega
    obtain ⟨w, w1, w2⟩ := Dg.atI_in (xs := [U.tup [.str "skip"], .tup [.str "skip"], .tup [.str "skip"], .tup [.str "fault"], .tup [.str "stop"]]) hb.1 (by simpa using hb.2)
    refine ⟨w, w1, ?_⟩
    have lf : ∀ z : Str, z ∈ (["skip", "stop", "fault"] : List Str) → Q (.tup [.str z]) μ5 := fun z hz => by
      have := q (.nd (.z z) []) μ5 ⟨hz, rfl, trivial, trivial⟩ (by have := CB_p n; simp only [size, sizes]; omega) (LB_0.mono (by omega)) (g4.trans g5)
      simp only [toU, toUs_map, bld] at this
      exact this
    simp only [List.mem_cons, List.not_mem_nil, or_false] at w2
    rcases w2 with rfl | rfl | rfl | rfl | rfl
    · exact lf "skip" (by simp)
    · exact lf "skip" (by simp)
    · exact lf "skip" (by simp)
    · exact lf "fault" (by simp)
    · exact lf "stop" (by simp)
  obtain ⟨xs, ce, hl⟩ := (hn.gn st g01).ap
  have hns : nm ≠ s := hn.ne st
  have rest : x ≠ 0 → (x < 3 → xs ≠ []) → Dg.wpS (xC2 C [some (.ref s), some (.ref nm), some (.int d), some (.int x), none, none, none] μ1) (DQ Q E) := fun hx0 hx3 => by
    have sets : xs ≠ [] → wpE (bLen [U.ref nm] μ1) (fun u μ1 => wpE (C 9 [U.ref s, u] μ1) (fun w μ2 => wpE (ixU (U.ref nm) w μ2) (fun u μ1 => wpE (C 10 [U.ref s, U.ref nm, U.int (d - 1)] μ1) (fun v μ1 => Q (U.tup [U.str "set", u, v]) μ1) fun c μ => E c μ) fun c μ => E c μ) fun c μ => E c μ) (fun c μ => E c μ) := fun hne => by
      rw [w_lenL ce]
      have hp := List.length_pos_iff.mpr hne
      refine h9.ap g01.st (by simp; omega) fun y μ3 y0 y1 g3 => ?_
      rw [w_ixL (g3.fx.at_ _ _ hns ce)]
      obtain ⟨w, w1, w2⟩ := Dg.atI_in (xs := xs.map U.str) y0 (by simpa using y1)
      refine ⟨w, w1, ?_⟩
      obtain ⟨z, _, rfl⟩ := List.mem_map.mp w2
      have g13 := g01.trans g3
      refine h10.ap g13.st (hn.gn st g13) (by omega) (by omega) fun t1 μ4 o1 z1 b1 g4 => ?_
      have hs : size (T.nd (.set (.str z)) [t1]) ≤ CB n := by
        simp only [size, sizes]
        cases n with
        | zero => simp [EB] at z1; simp [CB]; omega
        | succ k => simp at z1; rw [CB_s]; omega
      have := q (.nd (.set (.str z)) [t1]) μ4 ⟨smS, rfl, trivial, o1, trivial⟩ hs ((LB_nd (all1 b1)).mono (by omega)) (g13.trans g4)
      simp only [toU, toUs_map, bld, List.map_cons, List.map_nil] at this
      exact this
    unfold xC2 DQ
    try walk_at "go"
    by_cases h3 : x < 3
    · rw [if_pos h3]
      exact sets (hx3 h3)
    rw [if_neg h3]
    try walk_at "go"
    by_cases hd0 : d ≤ 0
    · rw [hwd hd0] at x1; omega
    rw [if_neg (by simpa using hd0)]
    obtain ⟨k, rfl⟩ : ∃ k, n = k + 1 := ⟨n - 1, by omega⟩
    exact xC3_ok h10 (hrec k rfl) st hn (by omega) (by omega) q g01
  unfold DQ at rest
  try walk_at "go"
  by_cases x00 : x = 0
  · rw [if_pos x00]
    exact leaf
  rw [if_neg x00, w_lenL ce]
  try walk_at "go"
  by_cases hx0 : xs = []
  · rw [if_pos (by simp [hx0])]
    by_cases h3 : x < 3
    · rw [if_pos h3]; exact leaf
    · rw [if_neg h3]; exact rest x00 fun h => absurd h h3
  · rw [if_neg (by simp [hx0])]
    exact rest x00 fun _ => hx0
theorem cutU_map {α β : Type} (f : α → β) (xs : List α) (lo hi : Option Int) : cutU (xs.map f) lo hi = (cutU xs lo hi).map f := by
  unfold cutU
  simp [List.map_drop, List.map_take]
theorem cutU_len {α : Type} {xs : List α} {lo hi : Option Int} : (cutU xs lo hi).length ≤ xs.length := by
  unfold cutU
  rw [List.length_take, List.length_drop]
  omega
/-- an operation of the law's modules -/
structure OpOk (o : Str × Str × T) : Prop where
  kd : o.2.1 = "com" ∨ o.2.1 = "exp"
  ok : ok o.2.2
  sz : size o.2.2 ≤ 30
  lb : LB o.2.2 5
structure MoOk (vs : List (Str × Int)) (os : List (Str × Str × T)) : Prop where
  v : vs.length ≤ 3
  n : os.length = 1 ∨ os.length = 2
  nm : os.map (·.1) = (["go", "get"] : List Str).take os.length
  o : ∀ o ∈ os, OpOk o
structure ModS (g : List U → Mem → Res U) : Prop where
  ap : ∀ {r s : Nat} {d : Int} {μ : Mem} {Q : U → Mem → Prop} {E : Str → Mem → Prop}, St r s μ → d ≤ 2 → (∀ vs os μ', MoOk vs os → Gn r s μ μ' → Q (moU vs os) μ') → wpE (g [.ref s, .int d] μ) Q E
theorem mod_s {C : Calls} (h9 : NextS (C 9)) (h10 : ExpS 2 (C 10)) (h11 : ComS 2 (C 11)) : ModS (runDef 10 (b__law_module C)) := by
  constructor
  intro r s d μ Q E st hd q
  unfold b__law_module
  walk_at "go"
  refine h9.ap st (by omega) fun x μ1 x0 x1 g1 => ?_
  refine h9.ap g1.st (by omega) fun y μ2 y0 y1 g2 => ?_
  have g12 := g1.trans g2
  try walk_at "go"
  obtain ⟨c, hc⟩ : ∃ c : Int, c = x + (if y = 0 then 1 else 0) := ⟨_, rfl⟩
  have k1 : (μ2 ++ [Cell.lst [U.str "v", .str "vw", .str "q"]])[μ2.length]? = some (.lst [U.str "v", .str "vw", .str "q"]) := get_snoc
  have f1 : Fr μ2 (μ2 ++ [Cell.lst [U.str "v", .str "vw", .str "q"]]) := Fr.refl.snoc
  generalize hA : μ2.length = A at *
  generalize μ2 ++ [Cell.lst [U.str "v", .str "vw", .str "q"]] = μ3 at *
  have k2 : (μ3 ++ [Cell.lst [U.str "q", .str "qq", .str "v"]])[μ3.length]? = some (.lst [U.str "q", .str "qq", .str "v"]) := get_snoc
  have k1' := get_snoc_lt (c := .lst [U.str "q", .str "qq", .str "v"]) k1
  have f2 : Fr μ2 (μ3 ++ [Cell.lst [U.str "q", .str "qq", .str "v"]]) := f1.snoc
  generalize μ3.length = B at *
  generalize μ3 ++ [Cell.lst [U.str "q", .str "qq", .str "v"]] = μ4 at *
  have k3 : (μ4 ++ [Cell.lst [U.str "qq", .str "q", .str "qqq"]])[μ4.length]? = some (.lst [U.str "qq", .str "q", .str "qqq"]) := get_snoc
  have k2' := get_snoc_lt (c := .lst [U.str "qq", .str "q", .str "qqq"]) k2
  have k1'' := get_snoc_lt (c := .lst [U.str "qq", .str "q", .str "qqq"]) k1'
  have f3 : Fr μ2 (μ4 ++ [Cell.lst [U.str "qq", .str "q", .str "qqq"]]) := f2.snoc
  generalize μ4.length = D at *
  generalize μ4 ++ [Cell.lst [U.str "qq", .str "q", .str "qqq"]] = μ5 at *
  have kF : (μ5 ++ [Cell.lst [U.ref A, .ref B, .ref D]])[μ5.length]? = some (.lst [U.ref A, .ref B, .ref D]) := get_snoc
  have kA := get_snoc_lt (c := .lst [U.ref A, .ref B, .ref D]) k1''
  have kB := get_snoc_lt (c := .lst [U.ref A, .ref B, .ref D]) k2'
  have kD := get_snoc_lt (c := .lst [U.ref A, .ref B, .ref D]) k3
  have f4 : Fr μ2 (μ5 ++ [Cell.lst [U.ref A, .ref B, .ref D]]) := f3.snoc
  generalize μ5.length = F at *
  generalize μ5 ++ [Cell.lst [U.ref A, .ref B, .ref D]] = μ6 at *
  have g6 := g12.fr f4
  have nes : ∀ {i : Nat} {us : List U}, μ6[i]? = some (.lst us) → (∀ n : Int, us ≠ [.ref r, .int n]) → i ≠ s := fun {i us} h hne e => by
    subst e
    obtain ⟨n, e2⟩ := g6.st.cnt
    rw [h] at e2
    cases e2
    exact hne n rfl
  have nF := nes kF (by simp)
  have nA := nes kA (by simp)
  have nB := nes kB (by simp)
  have nD := nes kD (by simp)
  refine h9.ap g6.st (by omega) fun z μ7 z0 z1 g7 => ?_
  have g67 := g6.trans g7
  rw [w_ixL (g7.fx.at_ _ _ nF kF)]
  obtain ⟨w, w1, w2⟩ := Dg.atI_in (xs := [U.ref A, .ref B, .ref D]) z0 z1
  refine ⟨w, w1, ?_⟩
  obtain ⟨K, xs, hw, hK, hxl⟩ : ∃ (K : Nat) (xs : List Str), w = .ref K ∧ μ7[K]? = some (.lst (xs.map U.str)) ∧ xs.length ≤ 3 := by
    simp only [List.mem_cons, List.not_mem_nil, or_false] at w2
    rcases w2 with rfl | rfl | rfl
    · exact ⟨A, ["v", "vw", "q"], rfl, g7.fx.at_ _ _ nA kA, by simp⟩
    · exact ⟨B, ["q", "qq", "v"], rfl, g7.fx.at_ _ _ nB kB, by simp⟩
    · exact ⟨D, ["qq", "q", "qqq"], rfl, g7.fx.at_ _ _ nD kD, by simp⟩
  subst hw
  try walk_at "go"
  rw [w_slL hK, cutU_map]
  rw [← hc]
  have hyl : (cutU xs none (some c)).length ≤ 3 := Nat.le_trans cutU_len hxl
  generalize cutU xs none (some c) = ys at *
  have c8 : (μ7 ++ [Cell.lst (ys.map U.str)])[μ7.length]? = some (.lst (ys.map U.str)) := get_snoc
  have g8 := g67.fr (Fr.refl.snoc (c := Cell.lst (ys.map U.str)))
  have lsN : s < μ7.length := g67.st.lt.1
  have lrN : r < μ7.length := g67.st.lt.2
  have lP : μ7.length < (μ7 ++ [Cell.lst (ys.map U.str)]).length := by simp
  generalize μ7 ++ [Cell.lst (ys.map U.str)] = μ8 at *
  generalize μ7.length = N at *
  refine ⟨_, listAt_L c8, ?_⟩
  have cP : (μ8 ++ [Cell.lst []])[μ8.length]? = some (.lst []) := get_snoc
  have cN := get_snoc_lt (c := .lst []) c8
  have g9 := g8.fr (Fr.refl.snoc (c := Cell.lst []))
  have hmP : μ.length ≤ μ8.length := g8.fx.le
  generalize μ8 ++ [Cell.lst []] = μ9 at *
  generalize μ8.length = P at *
  refine lc_live (ys.map U.str) (fun i μ' => i ≤ ys.length ∧ (∃ vs : List (Str × Int), vs.length = i ∧ μ'[P]? = some (.lst (vs.map vU))) ∧ μ'[N]? = some (.lst (ys.map U.str)) ∧ St r s μ' ∧ Fx s μ μ') (by simp; omega) ⟨by omega, ⟨[], rfl, cP⟩, cN, g9.st, g9.fx⟩ (fun i μ' h => h.2.2.1) (fun i μ' hi hI => ?_) fun μ' hI => ?_
  · obtain ⟨i0, ⟨vs, v1, v2⟩, i2, i3, i4⟩ := hI
    have hi' : i < ys.length := by simpa using hi
    refine ⟨[some (.ref s), some (.int d), some (.int c), some (.ref N), none, none, none, none, none, some (ys.map U.str)[i]], rfl, ?_⟩
    have ei : (ys.map U.str)[i] = .str ys[i] := by simp
    rw [ei]
    walk_at "go"
    refine h9.ap i3 (by omega) fun v μa _ _ ga => ?_
    have v3 := ga.fx.at_ _ _ (by omega) v2
    have hlP := get_lt v3
    try walk_at "go"
    refine ⟨_, v3, by simp [lim]; omega, by omega, ⟨vs ++ [(ys[i], v)], by simp [v1], by rw [get_set v3]; simp [vU]⟩, get_set_ne (ga.fx.at_ _ _ (by omega) i2) (by omega), ga.st.put (by omega) (by omega), ?_⟩
    exact (i4.trans ga.fx).put hmP
  · obtain ⟨i0, ⟨vs, v1, v2⟩, i2, i3, i4⟩ := hI
    have hvl : vs.length ≤ 3 := by rw [v1]; simpa using hyl
    rw [w_tupleL v2]
    have hnm : Nm 3 μ' N := ⟨⟨ys, i2, hyl⟩⟩
    have cO : (μ' ++ [Cell.lst []])[μ'.length]? = some (.lst []) := get_snoc
    have gO : Gn r s μ (μ' ++ [Cell.lst []]) := (⟨i4, i3⟩ : Gn r s μ μ').fr (Fr.refl.snoc (c := Cell.lst []))
    have hnO := hnm.fr (Fr.refl.snoc (c := Cell.lst []))
    have lsO := i3.lt
    have hmO : μ.length ≤ μ'.length := i4.le
    have lNO : N < μ'.length := get_lt i2
    generalize μ' ++ [Cell.lst []] = μ10 at *
    generalize μ'.length = O at *
    refine h9.ap gO.st (by omega) fun p μ11 p0 p1 g11 => ?_
    try walk_at "go"
    obtain ⟨n, hn, hn2⟩ : ∃ n : Nat, 1 + p = (n : Int) ∧ (n = 1 ∨ n = 2) := ⟨(1 + p).toNat, by omega, by omega⟩
    rw [hn]
    refine ⟨by simp [okR]; omega, ?_⟩
    have c11 := g11.fx.at_ _ _ (by omega) cO
    have g12' := gO.trans g11
    have hn11 := hnO.gn gO.st g11
    refine for_rng n (fun i s' μ' => (∃ x6 x7 x8, s' = [some (.ref s), some (.int d), some (.int c), some (.ref N), some (.tup (vs.map vU)), some (.ref O), x6, x7, x8, none]) ∧ (∃ os : List (Str × Str × T), os.length = i ∧ os.map (·.1) = (["go", "get"] : List Str).take i ∧ (∀ o ∈ os, OpOk o) ∧ μ'[O]? = some (.lst (os.map oU))) ∧ Nm 3 μ' N ∧ St r s μ' ∧ Fx s μ μ') (by simp) (by omega) ⟨⟨_, _, _, rfl⟩, ⟨[], rfl, rfl, by simp, c11⟩, hn11, g12'.st, g12'.fx⟩ ?_ ?_
    · rintro i s' μa hi ⟨⟨x6, x7, x8, rfl⟩, ⟨os, o1, o2, o3, o4⟩, a1, a2, a3⟩
      refine ⟨[some (.ref s), some (.int d), some (.int c), some (.ref N), some (.tup (vs.map vU)), some (.ref O), some (.int i), x7, x8, none], rfl, ?_⟩
      have ga : Gn r s μ μa := ⟨a3, a2⟩
      walk_at "go"
      have fb : Fr μa (μa ++ [Cell.lst [U.str "com", U.str "exp"]]) := Fr.refl.snoc
      have cb : (μa ++ [Cell.lst [U.str "com", U.str "exp"]])[μa.length]? = some (.lst [U.str "com", U.str "exp"]) := get_snoc
      have gb := ga.fr fb
      have lb : μa.length ≠ s := by have := a2.lt; omega
      have ob := fb.at_ _ _ o4
      have nb := a1.fr fb
      generalize μa ++ [Cell.lst [U.str "com", U.str "exp"]] = μb at *
      refine h9.ap gb.st (by omega) fun u μc u0 u1 gc => ?_
      rw [w_ixL (gc.fx.at_ _ _ lb cb)]
      obtain ⟨k, k1, k2⟩ := Dg.atI_in (xs := [U.str "com", U.str "exp"]) u0 u1
      refine ⟨k, k1, ?_⟩
      have gbc := gb.trans gc
      have oc := gc.fx.at_ _ _ (by omega) ob
      have nc := nb.gn gb.st gc
      have fin : ∀ (kd : Str) (t : T) μe, (kd = "com" ∨ kd = "exp") → ok t → size t ≤ 30 → LB t 5 → Gn r s μc μe → ∃ us, lstU μe (.ref O) = some us ∧ wpE (ixU (.ref μe.length) (.int i) (μe ++ [Cell.lst [U.str "go", U.str "get"]])) (fun w μ1 => wpE (gAppend (.ref O) [.tup [w, .str kd, toU t]] μ1) (fun _ μ' => (∃ x6 x7 x8, [some (.ref s), some (.int d), some (.int c), some (.ref N), some (.tup (vs.map vU)), some (.ref O), some (.int i), some (.str kd), some (toU t), none] = [some (.ref s), some (.int d), some (.int c), some (.ref N), some (.tup (vs.map vU)), some (.ref O), x6, x7, x8, none]) ∧ (∃ os : List (Str × Str × T), os.length = i + 1 ∧ os.map (·.1) = (["go", "get"] : List Str).take (i + 1) ∧ (∀ o ∈ os, OpOk o) ∧ μ'[O]? = some (.lst (os.map oU))) ∧ Nm 3 μ' N ∧ St r s μ' ∧ Fx s μ μ') (fun c μ => E c μ)) (fun c μ => E c μ) := by
        intro kd t μe hkd ot st5 lt5 ge
        have oe := ge.fx.at_ _ _ (by omega) oc
        refine ⟨_, lstU_L oe, ?_⟩
        have hgo : ∃ z : Str, ([U.str "go", U.str "get"] : List U)[i]? = some (.str z) ∧ (["go", "get"] : List Str).take (i + 1) = (["go", "get"] : List Str).take i ++ [z] := by
          have : i = 0 ∨ i = 1 := by omega
          rcases this with rfl | rfl
          · exact ⟨"go", rfl, rfl⟩
          · exact ⟨"get", rfl, rfl⟩
        obtain ⟨z, z1, z2⟩ := hgo
        rw [w_ixL get_snoc, Dg.atI_nat]
        refine ⟨_, z1, ?_⟩
        have of := get_snoc_lt (c := .lst [U.str "go", U.str "get"]) oe
        have gf := (gbc.trans ge).fr (Fr.refl.snoc (c := Cell.lst [U.str "go", U.str "get"]))
        have nf := (nc.gn gbc.st ge).fr (Fr.refl.snoc (c := Cell.lst [U.str "go", U.str "get"]))
        rw [w_append of (by simp [lim]; omega)]
        refine ⟨⟨_, _, _, rfl⟩, ⟨os ++ [(z, kd, t)], by simp [o1], by rw [List.map_append, o2, z2]; rfl, fun o ho => ?_, by rw [get_set of]; simp [oU]⟩, ?_, gf.st.put (by omega) (by omega), gf.fx.put hmO⟩
        · rcases List.mem_append.mp ho with h | h
          · exact o3 o h
          · rw [List.mem_singleton.mp h]; exact ⟨hkd, ot, st5, lt5⟩
        · obtain ⟨zs, e, l⟩ := nf.ap
          exact ⟨⟨zs, get_set_ne e (by omega), l⟩⟩
      have eC : CB 2 = 25 := rfl
      have eE : EB 2 = 27 := rfl
      simp only [List.mem_cons, List.not_mem_nil, or_false] at k2
      rcases k2 with rfl | rfl
      · refine ⟨_, Dg.eq_str, ?_⟩
        rw [if_pos (by decide)]
        exact h11.ap gbc.st nc (by omega) (by omega) fun t μe ot sz lb ge => fin "com" t μe (.inl rfl) ot (by omega) (lb.mono (by omega)) ge
      · refine ⟨_, Dg.eq_str, ?_⟩
        rw [if_neg (by decide)]
        exact h10.ap gbc.st nc (by omega) (by omega) fun t μe ot sz lb ge => fin "exp" t μe (.inr rfl) ot (by omega) (lb.mono (by omega)) ge
    · rintro s' μa ⟨⟨x6, x7, x8, rfl⟩, ⟨os, o1, o2, o3, o4⟩, a1, a2, a3⟩
      try walk_at "go"
      rw [w_tupleL o4]
      exact q vs os μa ⟨hvl, by omega, by rw [o1]; exact o2, o3⟩ ⟨a3, a2⟩
/-! sizes and levels of what is linked -/
theorem size_nw (xs : List (Str × Int)) : ∀ t, size (xs.foldl nwT t) = 2 * xs.length + size t := by
  induction xs with
  | nil => intro t; simp
  | cons v xs ih => intro t; rw [List.foldl_cons, ih]; simp [nwT, size, sizes]; omega
theorem ok_nw (xs : List (Str × Int)) : ∀ t, ok t → ok (xs.foldl nwT t) := by
  induction xs with
  | nil => intro t h; exact h
  | cons v xs ih =>
    intro t h
    rw [List.foldl_cons]
    exact ih _ ⟨smS, rfl, trivial, ⟨⟨by simp, smI⟩, rfl, trivial, trivial⟩, h, trivial⟩
theorem LB_nw (xs : List (Str × Int)) : ∀ t b, LB t b → LB (xs.foldl nwT t) (xs.length + b) := by
  induction xs with
  | nil => intro t b h; exact h.mono (by simp)
  | cons v xs ih =>
    intro t b h
    rw [List.foldl_cons]
    exact (ih _ (b + 1) (LB_nd (all2 (LB_0.mono (by omega)) h))).mono (by simp; omega)
theorem size_pr (xs : List (Str × Str × T)) (hx : ∀ o ∈ xs, OpOk o) : ∀ t, size t + 2 * xs.length ≤ size (xs.foldl prT t) ∧ size (xs.foldl prT t) ≤ size t + 31 * xs.length := by
  induction xs with
  | nil => intro t; simp
  | cons o xs ih =>
    intro t
    rw [List.foldl_cons]
    have h := ih (fun o ho => hx o (by simp [ho])) (prT t o)
    have h2 := (hx o (by simp)).sz
    have h3 := size_pos (t := o.2.2)
    have e : size (prT t o) = 1 + size o.2.2 + size t := by simp [prT, size, sizes]; omega
    rw [e] at h
    simp only [List.length_cons]
    omega
theorem ok_pr (xs : List (Str × Str × T)) (hx : ∀ o ∈ xs, OpOk o) : ∀ t, ok t → ok (xs.foldl prT t) := by
  induction xs with
  | nil => intro t h; exact h
  | cons o xs ih =>
    intro t h
    rw [List.foldl_cons]
    exact ih (fun o ho => hx o (by simp [ho])) _ ⟨⟨smS, ⟨rfl, by simp [dp, dps]⟩⟩, rfl, trivial, (hx o (by simp)).ok, h, trivial⟩
theorem LB_pr (xs : List (Str × Str × T)) (hx : ∀ o ∈ xs, OpOk o) : ∀ t b, 5 ≤ b → LB t b → LB (xs.foldl prT t) (xs.length + b) := by
  induction xs with
  | nil => intro t b _ h; exact h.mono (by simp)
  | cons o xs ih =>
    intro t b h5 h
    rw [List.foldl_cons]
    exact (ih (fun o ho => hx o (by simp [ho])) _ (b + 1) (by omega) (LB_nd (all2 ((hx o (by simp)).lb.mono h5) h))).mono (by simp; omega)
theorem rev_ok {os : List (Str × Str × T)} (h : ∀ o ∈ os, OpOk o) : ∀ o ∈ os.reverse, OpOk o := fun o ho => h o (List.mem_reverse.mp ho)
theorem lk_ok {vs : List (Str × Int)} {os : List (Str × Str × T)} {t : T} (h : ∀ o ∈ os, OpOk o) (o : ok t) : ok (lkT vs os t) := ok_nw _ _ (ok_pr _ (rev_ok h) _ o)
theorem lk_size {vs : List (Str × Int)} {os : List (Str × Str × T)} {t : T} (h : ∀ o ∈ os, OpOk o) : size t + 2 * os.length ≤ size (lkT vs os t) ∧ size (lkT vs os t) ≤ size t + 31 * os.length + 2 * vs.length := by
  unfold lkT
  rw [size_nw]
  have := size_pr _ (rev_ok h) t
  simp only [List.length_reverse] at *
  omega
theorem lk_LB {vs : List (Str × Int)} {os : List (Str × Str × T)} {t : T} {b : Nat} (h : ∀ o ∈ os, OpOk o) (h5 : 5 ≤ b) (hb : LB t b) : LB (lkT vs os t) (vs.length + os.length + b) := by
  have := LB_nw vs.reverse _ _ (LB_pr _ (rev_ok h) t b h5 hb)
  exact this.mono (by simp; omega)
theorem not_large {t : T} {b : Nat} (s : size t ≤ 400) (hb : LB t b) (h : b ≤ 29) : ¬ large t := by
  rintro (h1 | ⟨p, hp, h1⟩)
  · omega
  · have := hb 1 p hp
    omega
/-- a node so deep -/
def HL (t : T) (b : Nat) : Prop := ∀ l, ∃ p ∈ preL t l, p.2 = l + b
theorem HL_0 {t : T} : HL t 0 := fun l => by
  obtain ⟨h, ps⟩ := t
  exact ⟨(.nd h ps, l), by simp [preL], by simp⟩
theorem HL_2 {h : Hd} {a t : T} {b : Nat} (ns : sqs h [a, t] = false) (hb : HL t b) : HL (.nd h [a, t]) (b + 1) := fun l => by
  obtain ⟨p, hp, e⟩ := hb (l + 1)
  refine ⟨p, ?_, by rw [e]; omega⟩
  have : lvp h [a, t] l = [l + 1, l + 1] := by unfold lvp; rw [if_neg (by rw [ns]; decide)]; rfl
  simp only [preL, this, preLs, List.append_nil, List.mem_cons, List.mem_append]
  exact .inr (.inr hp)
theorem HL_1 {h : Hd} {t : T} {b : Nat} (ns : sqs h [t] = false) (hb : HL t b) : HL (.nd h [t]) (b + 1) := fun l => by
  obtain ⟨p, hp, e⟩ := hb (l + 1)
  refine ⟨p, ?_, by rw [e]; omega⟩
  have : lvp h [t] l = [l + 1] := by unfold lvp; rw [if_neg (by rw [ns]; decide)]; rfl
  simp only [preL, this, preLs, List.append_nil, List.mem_cons]
  exact .inr hp
theorem HL_nw (xs : List (Str × Int)) : ∀ t b, HL t b → HL (xs.foldl nwT t) (xs.length + b) := by
  induction xs with
  | nil => intro t b h; simpa using h
  | cons v xs ih =>
    intro t b h
    rw [List.foldl_cons]
    have := ih _ (b + 1) (HL_2 (h := .nw (.str v.1)) (a := .nd (.x "num" (.int v.2)) []) rfl h)
    rw [show (v :: xs).length + b = xs.length + (b + 1) by simp; omega]
    exact this
theorem HL_pr (xs : List (Str × Str × T)) : ∀ t b, HL t b → HL (xs.foldl prT t) (xs.length + b) := by
  induction xs with
  | nil => intro t b h; simpa using h
  | cons o xs ih =>
    intro t b h
    rw [List.foldl_cons]
    have := ih _ (b + 1) (HL_2 (h := .prc (.str o.1) (.tup []) o.2.1) (a := o.2.2) rfl h)
    rw [show (o :: xs).length + b = xs.length + (b + 1) by simp; omega]
    exact this
theorem lk_HL {vs : List (Str × Int)} {os : List (Str × Str × T)} {t : T} {b : Nat} (hb : HL t b) : HL (lkT vs os t) (vs.length + os.length + b) := by
  have := HL_nw vs.reverse _ _ (HL_pr os.reverse t b hb)
  rw [List.length_reverse, List.length_reverse, ← Nat.add_assoc] at this
  exact this
theorem HL_large {t : T} {b : Nat} (h : HL t b) (hb : 30 ≤ b) : large t := by
  obtain ⟨p, hp, e⟩ := h 1
  exact .inr ⟨p, hp, by rw [e]; omega⟩
def skipT : T := .nd (.z "skip") []
theorem skip_ok : ok skipT := ⟨by simp [hok], rfl, trivial, trivial⟩
def longT : Nat → T
  | 0 => skipT
  | n + 1 => .nd .seq [longT n, skipT]
def deepT : Nat → T
  | 0 => skipT
  | n + 1 => .nd (.blk (.str "lab")) [deepT n]
theorem long_ok : ∀ n, ok (longT n)
  | 0 => skip_ok
  | n + 1 => ⟨trivial, rfl, ⟨_, _, rfl, rfl⟩, long_ok n, skip_ok, trivial⟩
theorem long_size : ∀ n, size (longT n) = 2 * n + 1
  | 0 => rfl
  | n + 1 => by simp [longT, size, sizes, long_size n, skipT]; omega
theorem skip_lb {b : Nat} : LB skipT b := (LB_0 (h := .z "skip")).mono (by omega)
theorem long_LB : ∀ n, LB (longT n) 1
  | 0 => skip_lb
  | 1 => LB_nd (all2 skip_lb skip_lb)
  | n + 2 => fun l p hp => by
    have e : lvp .seq [longT (n + 1), skipT] l = [l, l + 1] := rfl
    simp only [longT] at e
    simp only [longT, preL, e, preLs, List.append_nil, List.mem_cons, List.mem_append] at hp
    rcases hp with rfl | hp | hp
    · simp only; omega
    · have := long_LB (n + 1) l p (by simp only [longT, preL, List.mem_cons]; exact hp)
      exact this
    · have := skip_lb (b := 0) (l + 1) p hp
      try simp only at this
      omega
theorem deep_ok : ∀ n, ok (deepT n)
  | 0 => skip_ok
  | n + 1 => ⟨smS, rfl, trivial, deep_ok n, trivial⟩
theorem deep_size : ∀ n, size (deepT n) = n + 1
  | 0 => rfl
  | n + 1 => by simp [deepT, size, sizes, deep_size n]; omega
theorem deep_LB : ∀ n, LB (deepT n) n
  | 0 => skip_lb
  | n + 1 => LB_nd (all1 (deep_LB n))
theorem deep_HL : ∀ n, HL (deepT n) n
  | 0 => HL_0
  | n + 1 => HL_1 rfl (deep_HL n)
/-! the law's own linking, and its clients -/
structure LinkedS (g : List U → Mem → Res U) : Prop where
  ap : ∀ {vs : List (Str × Int)} {os : List (Str × Str × T)} {ds : List (Str × List Str × Str)} {kd : Str} {t : T} {μ : Mem} {Q : U → Mem → Prop} {E : Str → Mem → Prop}, os.length ≤ 100 → vs.length ≤ 100 → Q (linked vs os t) μ → wpE (g [moU vs os, clU ds kd t] μ) Q E
theorem linked_s {C : Calls} : LinkedS (runDef 5 (b__law_linked C)) := by
  constructor
  intro vs os ds kd t μ Q E ho hv q
  unfold b__law_linked moU clU
  walk_at "go"
  refine ⟨by simp [okR]; omega, ?_⟩
  refine for_rng os.length (fun i s' μ' => μ' = μ ∧ ∃ x3 x4, s' = [some (.tup [.tup (vs.map vU), .tup (os.map oU)]), some (.tup [.tup (ds.map dU), .str kd, toU t]), some (toU ((os.reverse.take i).foldl prT t)), x3, x4]) (by simp) (by omega) ⟨rfl, _, _, rfl⟩ ?_ ?_
  · rintro i s' μ' hi ⟨rfl, x3, x4, rfl⟩
    refine ⟨[some (.tup [.tup (vs.map vU), .tup (os.map oU)]), some (.tup [.tup (ds.map dU), .str kd, toU t]), some (toU ((os.reverse.take i).foldl prT t)), some (.int i), x4], rfl, ?_⟩
    have hi' : i < os.reverse.length := by simpa using hi
    have e : atI (os.map oU) (((os.map oU).length : Int) - 1 - (i : Int)) = some (.tup [.str os.reverse[i].1, .str os.reverse[i].2.1, toU os.reverse[i].2.2]) := by
      rw [show ((os.map oU).length : Int) - 1 - (i : Int) = ((os.length - 1 - i : Nat) : Int) by simp; omega, Dg.atI_nat, List.getElem?_map, List.getElem?_eq_getElem (by omega)]
      simp [oU, List.getElem_reverse]
    simp (config := {decide := true}) only [e, w_run, w_geXI, w_geXP, w_lz, w_op, w_isi, Dg.wipeU, w_powI, w_intB, w_sl, w_oNone, w_oSome, w_slT, w_slF, w_ixF, w_lenF, w_abs, w_max2, w_min2, w_fdivI, w_neg, w_andE, w_orE, w_notE, w_chain, w_c, w_var, w_call, w_def, w_anil, w_acons, w_tup, w_lst, w_int, w_intB, w_lenT, w_addI, w_subI, w_modI, w_mulI, w_ltI, w_leI, w_gtI, w_geI, w_eq, w_ne, w_ixT, w_if, w_nt, w_an, w_or, w_all, w_tstB, w_tst, w_app, w_lc, w_for, w_iseqT, w_rg1, w_rev1, w_d0, Dg.eq_str, Dg.eq_int, s_seq, s_next, s_brk, s_cnt, s_expr, s_ret, s_retN, s_if, w_getE, w_items, w_keys, w_fmt, w_js0, w_js, s_asg1, s_store, s_tryAs, s_try, w_isX, s_raise, List.map_cons, List.map_nil, List.cons_append, List.nil_append, List.length_cons, List.length_nil, List.replicate_succ, List.replicate_zero, Nat.add_sub_cancel, Nat.sub_self, Nat.sub_zero, Nat.reduceAdd, Nat.reduceSub, Nat.zero_add, List.set_cons_succ, List.set_cons_zero, List.getElem?_cons_zero, List.getElem?_cons_succ, Option.some.injEq, exists_eq_left', exists_eq_left, exists_eq_right', U.bl.injEq, U.int.injEq, U.ref.injEq, U.str.injEq, atI_0, atI_1, atI_2, atI_3, atI_4, atI_5, if_true, if_false, true_and, and_true, decide_true, decide_false, Bool.not_true, Bool.not_false, reduceCtorEq, ite_true, ite_false, decide_eq_true_eq, Bool.true_eq_false, Bool.false_eq_true]
    rw [foldl_take prT t hi', prT_U]
    exact ⟨_, _, rfl⟩
  · rintro s' μ' ⟨rfl, x3, x4, rfl⟩
    have e1 : os.reverse.take os.length = os.reverse := List.take_of_length_le (by simp)
    rw [e1]
    walk_at "go"
    refine ⟨by simp [okR]; omega, ?_⟩
    refine for_rng vs.length (fun i s' μ2 => μ2 = μ' ∧ ∃ x3 x4, s' = [some (.tup [.tup (vs.map vU), .tup (os.map oU)]), some (.tup [.tup (ds.map dU), .str kd, toU t]), some (toU ((vs.reverse.take i).foldl nwT (os.reverse.foldl prT t))), x3, x4]) (by simp) (by omega) ⟨rfl, _, _, rfl⟩ ?_ ?_
    · rintro i s' μ2 hi ⟨rfl, x3, x4, rfl⟩
      refine ⟨[some (.tup [.tup (vs.map vU), .tup (os.map oU)]), some (.tup [.tup (ds.map dU), .str kd, toU t]), some (toU ((vs.reverse.take i).foldl nwT (os.reverse.foldl prT t))), some (.int i), x4], rfl, ?_⟩
      have hi' : i < vs.reverse.length := by simpa using hi
      have e : atI (vs.map vU) (((vs.map vU).length : Int) - 1 - (i : Int)) = some (.tup [.str vs.reverse[i].1, .int vs.reverse[i].2]) := by
        rw [show ((vs.map vU).length : Int) - 1 - (i : Int) = ((vs.length - 1 - i : Nat) : Int) by simp; omega, Dg.atI_nat, List.getElem?_map, List.getElem?_eq_getElem (by omega)]
        simp [vU, List.getElem_reverse]
      simp (config := {decide := true}) only [e, w_run, w_geXI, w_geXP, w_lz, w_op, w_isi, Dg.wipeU, w_powI, w_intB, w_sl, w_oNone, w_oSome, w_slT, w_slF, w_ixF, w_lenF, w_abs, w_max2, w_min2, w_fdivI, w_neg, w_andE, w_orE, w_notE, w_chain, w_c, w_var, w_call, w_def, w_anil, w_acons, w_tup, w_lst, w_int, w_intB, w_lenT, w_addI, w_subI, w_modI, w_mulI, w_ltI, w_leI, w_gtI, w_geI, w_eq, w_ne, w_ixT, w_if, w_nt, w_an, w_or, w_all, w_tstB, w_tst, w_app, w_lc, w_for, w_iseqT, w_rg1, w_rev1, w_d0, Dg.eq_str, Dg.eq_int, s_seq, s_next, s_brk, s_cnt, s_expr, s_ret, s_retN, s_if, w_getE, w_items, w_keys, w_fmt, w_js0, w_js, s_asg1, s_store, s_tryAs, s_try, w_isX, s_raise, List.map_cons, List.map_nil, List.cons_append, List.nil_append, List.length_cons, List.length_nil, List.replicate_succ, List.replicate_zero, Nat.add_sub_cancel, Nat.sub_self, Nat.sub_zero, Nat.reduceAdd, Nat.reduceSub, Nat.zero_add, List.set_cons_succ, List.set_cons_zero, List.getElem?_cons_zero, List.getElem?_cons_succ, Option.some.injEq, exists_eq_left', exists_eq_left, exists_eq_right', U.bl.injEq, U.int.injEq, U.ref.injEq, U.str.injEq, atI_0, atI_1, atI_2, atI_3, atI_4, atI_5, if_true, if_false, true_and, and_true, decide_true, decide_false, Bool.not_true, Bool.not_false, reduceCtorEq, ite_true, ite_false, decide_eq_true_eq, Bool.true_eq_false, Bool.false_eq_true]
      rw [foldl_take nwT _ hi', nwT_U]
      exact ⟨_, _, rfl⟩
    · rintro s' μ2 ⟨rfl, x3, x4, rfl⟩
      have e2 : vs.reverse.take vs.length = vs.reverse := List.take_of_length_le (by simp)
      rw [e2]
      walk_at "go"
      exact q
structure LongS (g : List U → Mem → Res U) : Prop where
  ap : ∀ {m : Nat} {μ : Mem} {Q : U → Mem → Prop} {E : Str → Mem → Prop}, m ≤ 900 → Q (clU [] "com" (longT m)) μ → wpE (g [.int m] μ) Q E
theorem long_s {C : Calls} : LongS (runDef 3 (b__law_long C)) := by
  constructor
  intro m μ Q E hm q
  unfold b__law_long
  walk_at "go"
  refine ⟨by simp [okR]; omega, ?_⟩
  refine for_rng m (fun i s' μ' => μ' = μ ∧ ∃ x2, s' = [some (.int m), some (toU (longT i)), x2]) (by simp) (by omega) ⟨rfl, _, rfl⟩ ?_ ?_
  · rintro i s' μ' hi ⟨rfl, x2, rfl⟩
    refine ⟨[some (.int m), some (toU (longT i)), some (.int i)], rfl, ?_⟩
    walk_at "go"
    exact ⟨_, rfl⟩
  · rintro s' μ' ⟨rfl, x2, rfl⟩
    walk_at "go"
    exact q
structure DeepS (g : List U → Mem → Res U) : Prop where
  ap : ∀ {i : Int} {m : Nat} {μ : Mem} {Q : U → Mem → Prop} {E : Str → Mem → Prop}, i = m + 1 → m ≤ 900 → Q (clU [] "com" (deepT m)) μ → wpE (g [.int i] μ) Q E
theorem deep_s {C : Calls} : DeepS (runDef 3 (b__law_deep C)) := by
  constructor
  intro j m μ Q E hj hm q
  subst hj
  unfold b__law_deep
  walk_at "go"
  rw [show (m : Int) + 1 - 1 = (m : Int) by omega]
  refine ⟨by simp [okR]; omega, ?_⟩
  refine for_rng m (fun i s' μ' => μ' = μ ∧ ∃ x2, s' = [some (.int (m + 1)), some (toU (deepT i)), x2]) (by simp) (by omega) ⟨rfl, _, rfl⟩ ?_ ?_
  · rintro i s' μ' hi ⟨rfl, x2, rfl⟩
    refine ⟨[some (.int (m + 1)), some (toU (deepT i)), some (.int i)], rfl, ?_⟩
    walk_at "go"
    exact ⟨_, rfl⟩
  · rintro s' μ' ⟨rfl, x2, rfl⟩
    walk_at "go"
    exact q
/-! told -/
theorem w_hide {i : Nat} {o : Out} {D : Dn} (h : Dg.wpS o ⟨fun s μ => D.nx (s.set i none) μ, D.rt, fun s μ => D.bk (s.set i none) μ, fun s μ => D.ct (s.set i none) μ, D.ex⟩) : Dg.wpS (hideO i o) D := by
  cases o <;> exact h
theorem s_tryM {l : List Cl3} {b : FS} {s : Slots} {μ : Mem} {D : Dn} (h : Dg.wpS (b s μ) { D with ex := fun c s1 μ1 => Dg.wpS (sHds l c s1 μ1) D }) : Dg.wpS (sTryM l b s μ) D := by
  unfold sTryM
  revert h
  cases b s μ <;> exact fun h => h
theorem s_hd0 {tab : List (Str × Bool)} {oi : Option Nat} {ms : Str → FS} {l : List Cl3} {c : Str} {s : Slots} {μ : Mem} {D : Dn} (e : tab.lookup c = some false) (h : Dg.wpS (sHds l c s μ) D) : Dg.wpS (sHds ((tab, oi, ms) :: l) c s μ) D := by
  unfold sHds
  simp only [e]
  exact h
theorem s_hd1 {tab : List (Str × Bool)} {ms : Str → FS} {l : List Cl3} {c : Str} {s : Slots} {μ : Mem} {D : Dn} (e : tab.lookup c = some true) (h : Dg.wpS (ms c s μ) D) : Dg.wpS (sHds ((tab, none, ms) :: l) c s μ) D := by
  unfold sHds
  simp only [e]
  exact h
theorem s_hd2 {tab : List (Str × Bool)} {i : Nat} {ms : Str → FS} {l : List Cl3} {c : Str} {s : Slots} {μ : Mem} {D : Dn} (e : tab.lookup c = some true) (hi : i < s.length) (h : Dg.wpS (ms c (s.set i none) μ) ⟨fun s μ => D.nx (s.set i none) μ, D.rt, fun s μ => D.bk (s.set i none) μ, fun s μ => D.ct (s.set i none) μ, D.ex⟩) : Dg.wpS (sHds ((tab, some i, ms) :: l) c s μ) D := by
  unfold sHds
  simp only [e, if_pos hi]
  exact w_hide h
theorem w_ixQL {n : Nat} {us : List U} {i : Int} {μ : Mem} {Q : U → Mem → Prop} {E : Str → Mem → Prop} (e : μ[n]? = some (.lst us)) : wpE (ixQ (.ref n) (.int i) μ) Q E = ∃ w, atI us i = some w ∧ Q w μ := by
  have hd : dctU μ (.ref n) = none := by simp only [dctU, e]
  unfold ixQ
  simp only [hd]
  rw [w_ixL e]
def good (os : List (Str × Str × T)) (ds : List (Str × List Str × Str)) (kd : Str) : Prop := (∀ d ∈ ds, (kOf os d.1).isSome = true) ∧ kd = "com" ∧ (∀ d ∈ ds, d.2.1 = [] ∧ kOf os d.1 = some d.2.2)
inductive Ans (vs : List (Str × Int)) (os : List (Str × Str × T)) (ds : List (Str × List Str × Str)) (kd : Str) (t : T) : Str → Prop
  | right : good os ds kd → ¬ large (lkT vs os t) → Ans vs os ds kd t "right"
  | large : good os ds kd → large (lkT vs os t) → Ans vs os ds kd t "large"
  | name : (∃ d ∈ ds, kOf os d.1 = none) → Ans vs os ds kd t "name"
  | kind : (∀ d ∈ ds, (kOf os d.1).isSome = true) → (kd ≠ "com" ∨ ∃ d ∈ ds, d.2.1 ≠ [] ∨ kOf os d.1 ≠ some d.2.2) → Ans vs os ds kd t "bad kind"
structure ToldS (g : List U → Mem → Res U) : Prop where
  ap : ∀ {vs : List (Str × Int)} {os : List (Str × Str × T)} {ds : List (Str × List Str × Str)} {kd : Str} {t : T} {μ : Mem} {Q : U → Mem → Prop} {E : Str → Mem → Prop}, MoOk vs os → ds.length ≤ 100 → (∀ d ∈ ds, d.1.length ≤ 100) → ok t → (size t ≤ 100 ∨ (size t ≤ 800 ∧ large (lkT vs os t))) →
    (∀ w μ', Ans vs os ds kd t w → Fr μ μ' → Q (.str w) μ') → wpE (g [moU vs os, clU ds kd t] μ) Q E
theorem MoOk.nd {vs : List (Str × Int)} {os : List (Str × Str × T)} (h : MoOk vs os) : (os.map (·.1)).Nodup := by
  rw [h.nm]
  rcases h.n with e | e <;> rw [e] <;> decide
theorem MoOk.l {vs : List (Str × Int)} {os : List (Str × Str × T)} (h : MoOk vs os) : os.length ≤ 2 := by
  rcases h.n with e | e <;> omega
theorem linked_eq {vs : List (Str × Int)} {os : List (Str × Str × T)} {t : T} {m : Mem} (h : ok (lkT vs os t)) (hs : size (lkT vs os t) ≤ 200) : eqU (linked vs os t) (linked vs os t) m = some true := by
  obtain ⟨p1, p2⟩ := toU_ok h
  refine eq_self (pd_pu ?_) ?_
  · simp [linked, pd, pds, p1]
  · simp only [linked, dp, dps]
    omega
theorem told_s {C : Calls} (h6 : LinkS (C 6)) (h13 : LinkedS (C 13)) : ToldS (runDef 4 (b__law_told C)) := by
  constructor
  intro vs os ds kd t μ Q E mo hd hn ot hs q
  have ol := mo.l
  have vl := mo.v
  obtain ⟨z1, z2⟩ := lk_size (vs := vs) (t := t) mo.o
  have hok := lk_ok (vs := vs) mo.o ot
  unfold b__law_told
  walk_at "go"
  refine s_tryM ?_
  walk_at "go"
  refine h6.ap mo.nd (by omega) (by omega) hd hn hok (by omega) (fun a b c μ1 f1 => ⟨fun hl => ?_, fun hl => ?_⟩) (fun a μ1 f1 => ?_) (fun a b μ1 f1 => ?_)
  · refine s_hd0 (by decide) ?_
    refine s_hd0 (by decide) ?_
    refine s_hd1 (by decide) ?_
    walk_at "go"
    exact q _ _ (.large ⟨a, b, c⟩ hl) f1
  · try walk_at "go"
    refine h13.ap (by omega) (by omega) ?_
    have hz : size (lkT vs os t) ≤ 200 := by
      rcases hs with h | ⟨_, h⟩
      · omega
      · exact absurd h hl
    have f2 : Fr μ1 (μ1 ++ [Cell.lst [U.str "other", U.str "right"]]) := Fr.refl.snoc
    try walk_at "go"
    refine ⟨_, linked_eq hok hz, ?_⟩
    try walk_at "go"
    rw [w_ixL get_snoc]
    exact ⟨_, rfl, q _ _ (.right ⟨a, b, c⟩ hl) (f1.trans f2)⟩
  · refine s_hd2 (by decide) (by simp) ?_
    walk_at "go"
    refine ⟨true, by decide, ?_⟩
    rw [if_neg (by decide)]
    refine ⟨false, by decide, ?_⟩
    rw [if_neg (by decide), w_ixQL get_snoc]
    exact ⟨_, rfl, q _ _ (.name a) f1.snoc⟩
  · refine s_hd0 (by decide) ?_
    refine s_hd2 (by decide) (by simp) ?_
    walk_at "go"
    refine ⟨true, by decide, ?_⟩
    rw [if_neg (by decide)]
    refine ⟨false, by decide, ?_⟩
    rw [if_neg (by decide), w_ixQL get_snoc]
    exact ⟨_, rfl, q _ _ (.kind a b) f1.snoc⟩
theorem ToldS.right {g : List U → Mem → Res U} (h : ToldS g) {vs : List (Str × Int)} {os : List (Str × Str × T)} {ds : List (Str × List Str × Str)} {t : T} {μ : Mem} {Q : U → Mem → Prop} {E : Str → Mem → Prop} (mo : MoOk vs os) (hd : ds.length ≤ 100) (hn : ∀ d ∈ ds, d.1.length ≤ 100) (ot : ok t) (hs : size t ≤ 100) (ha : ∀ d ∈ ds, d.2.1 = [] ∧ kOf os d.1 = some d.2.2) (hl : ¬ large (lkT vs os t)) (q : ∀ μ', Fr μ μ' → Q (.str "right") μ') : wpE (g [moU vs os, clU ds "com" t] μ) Q E := by
  refine h.ap mo hd hn ot (.inl hs) fun w μ' a f => ?_
  cases a with
  | right => exact q μ' f
  | large _ l => exact absurd l hl
  | name e => obtain ⟨d, hd, e⟩ := e; rw [(ha d hd).2] at e; cases e
  | kind _ e =>
    rcases e with e | ⟨d, hd, e | e⟩
    · exact absurd rfl e
    · exact absurd (ha d hd).1 e
    · exact absurd (ha d hd).2 e
theorem ToldS.large {g : List U → Mem → Res U} (h : ToldS g) {vs : List (Str × Int)} {os : List (Str × Str × T)} {t : T} {μ : Mem} {Q : U → Mem → Prop} {E : Str → Mem → Prop} (mo : MoOk vs os) (ot : ok t) (hs : size t ≤ 800) (hl : large (lkT vs os t)) (q : ∀ μ', Fr μ μ' → Q (.str "large") μ') : wpE (g [moU vs os, clU [] "com" t] μ) Q E := by
  refine h.ap mo (by simp) (by simp) ot (.inr ⟨hs, hl⟩) fun w μ' a f => ?_
  cases a with
  | right _ l => exact absurd hl l
  | large _ l => exact q μ' f
  | name e => obtain ⟨d, hd, e⟩ := e; cases hd
  | kind _ e =>
    rcases e with e | ⟨d, hd, e | e⟩
    · exact absurd rfl e
    · cases hd
    · cases hd
theorem ToldS.name {g : List U → Mem → Res U} (h : ToldS g) {vs : List (Str × Int)} {os : List (Str × Str × T)} {ds : List (Str × List Str × Str)} {kd : Str} {t : T} {μ : Mem} {Q : U → Mem → Prop} {E : Str → Mem → Prop} (mo : MoOk vs os) (hd : ds.length ≤ 100) (hn : ∀ d ∈ ds, d.1.length ≤ 100) (ot : ok t) (hs : size t ≤ 100) (ha : ∃ d ∈ ds, kOf os d.1 = none) (q : ∀ μ', Fr μ μ' → Q (.str "name") μ') : wpE (g [moU vs os, clU ds kd t] μ) Q E := by
  obtain ⟨d, hd', e⟩ := ha
  refine h.ap mo hd hn ot (.inl hs) fun w μ' a f => ?_
  cases a with
  | right g _ => have := g.1 d hd'; rw [e] at this; cases this
  | large g _ => have := g.1 d hd'; rw [e] at this; cases this
  | name _ => exact q μ' f
  | kind g _ => have := g d hd'; rw [e] at this; cases this
theorem ToldS.kind {g : List U → Mem → Res U} (h : ToldS g) {vs : List (Str × Int)} {os : List (Str × Str × T)} {ds : List (Str × List Str × Str)} {kd : Str} {t : T} {μ : Mem} {Q : U → Mem → Prop} {E : Str → Mem → Prop} (mo : MoOk vs os) (hd : ds.length ≤ 100) (hn : ∀ d ∈ ds, d.1.length ≤ 100) (ot : ok t) (hs : size t ≤ 100) (ha : ∀ d ∈ ds, (kOf os d.1).isSome = true) (hb : kd ≠ "com" ∨ ∃ d ∈ ds, d.2.1 ≠ [] ∨ kOf os d.1 ≠ some d.2.2) (q : ∀ μ', Fr μ μ' → Q (.str "bad kind") μ') : wpE (g [moU vs os, clU ds kd t] μ) Q E := by
  have ng : ¬ good os ds kd := by
    rintro ⟨_, g1, g2⟩
    rcases hb with e | ⟨d, hd, e | e⟩
    · exact e g1
    · exact e (g2 d hd).1
    · exact e (g2 d hd).2
  refine h.ap mo hd hn ot (.inl hs) fun w μ' a f => ?_
  cases a with
  | right g _ => exact absurd g ng
  | large g _ => exact absurd g ng
  | name e => obtain ⟨d, hd, e⟩ := e; have := ha d hd; rw [e] at this; cases this
  | kind _ _ => exact q μ' f
/-! the law -/
theorem kOf_mem : ∀ {os : List (Str × Str × T)} {o : Str × Str × T}, (os.map (·.1)).Nodup → o ∈ os → kOf os o.1 = some o.2.1
  | [], _, _, h => by cases h
  | p :: os, o, hn, h => by
    rw [List.map_cons, List.nodup_cons] at hn
    unfold kOf
    rw [List.find?_cons]
    rcases List.mem_cons.mp h with rfl | h
    · simp
    · have hne : ¬ p.1 = o.1 := fun e => hn.1 (by rw [e]; exact List.mem_map.mpr ⟨o, h, rfl⟩)
      have := kOf_mem hn.2 h
      unfold kOf at this
      simp only [hne, decide_false]
      exact this
theorem kOf_none : ∀ {os : List (Str × Str × T)} {n : Str}, (∀ o ∈ os, o.1 ≠ n) → kOf os n = none
  | [], _, _ => rfl
  | p :: os, n, h => by
    unfold kOf
    rw [List.find?_cons]
    have hne : ¬ p.1 = n := h p (by simp)
    simp only [hne, decide_false]
    exact kOf_none fun o ho => h o (by simp [ho])
theorem MoOk.nms {vs : List (Str × Int)} {os : List (Str × Str × T)} (h : MoOk vs os) : ∀ o ∈ os, o.1 = "go" ∨ o.1 = "get" := fun o ho => by
  have : o.1 ∈ os.map (·.1) := List.mem_map.mpr ⟨o, ho, rfl⟩
  rw [h.nm] at this
  have := List.mem_of_mem_take this
  simpa using this
theorem MoOk.nl {vs : List (Str × Int)} {os : List (Str × Str × T)} (h : MoOk vs os) : ∀ o ∈ os, o.1.length ≤ 100 := fun o ho => by
  rcases h.nms o ho with e | e <;> rw [e] <;> decide
theorem MoOk.no {vs : List (Str × Int)} {os : List (Str × Str × T)} (h : MoOk vs os) {n : Str} (h1 : n ≠ "go") (h2 : n ≠ "get") : kOf os n = none := kOf_none fun o ho e => by
  rcases h.nms o ho with e2 | e2
  · exact h1 (by rw [← e, e2])
  · exact h2 (by rw [← e, e2])
def callT (n : Str) : T := .nd (.cal (.str n) []) []
def cliT (use : T) : T := .nd (.nw (.str "v")) [.nd (.x "num" (.int 1)) [], .nd .seq [use, .nd (.set (.str "v")) [.nd (.x "num" (.int 2)) []]]]
theorem num_ok {i : Int} : ok (.nd (.x "num" (.int i)) []) := ⟨⟨by simp, smI⟩, rfl, trivial, trivial⟩
theorem call_ok {n : Str} : ok (callT n) := ⟨by simp [hok, smS], rfl, trivial, trivial⟩
theorem callw_ok {n : Str} : ok (.nd .wh [callT n, skipT]) := ⟨trivial, rfl, trivial, call_ok, skip_ok, trivial⟩
theorem cli_ok {use : T} (h : ok use) : ok (cliT use) := ⟨smS, rfl, trivial, num_ok, ⟨trivial, rfl, ⟨_, _, rfl, rfl⟩, h, ⟨smS, rfl, trivial, num_ok, trivial⟩, trivial⟩, trivial⟩
theorem cli_size {use : T} : size (cliT use) = 5 + size use := by simp [cliT, size, sizes]; omega
theorem cli_LB {use : T} (h : LB use 2) : LB (cliT use) 5 := (LB_nd (all2 (LB_0.mono (by omega)) (LB_nd (all2 h (LB_nd (all1 LB_0) |>.mono (by omega)))))).mono (by omega)
/-- a client that is told right -/
structure GoodC (vs : List (Str × Int)) (os : List (Str × Str × T)) (ds : List (Str × List Str × Str)) (t : T) : Prop where
  d : ds.length ≤ 100
  n : ∀ d ∈ ds, d.1.length ≤ 100
  o : ok t
  s : size t ≤ 100
  a : ∀ d ∈ ds, d.2.1 = [] ∧ kOf os d.1 = some d.2.2
  l : LB t 5
theorem GoodC.nl {vs : List (Str × Int)} {os : List (Str × Str × T)} {ds : List (Str × List Str × Str)} {t : T} (mo : MoOk vs os) (h : GoodC vs os ds t) : ¬ large (lkT vs os t) := by
  have h1 := mo.l
  have h2 := mo.v
  have h3 := h.s
  have h4 := (lk_size (vs := vs) (t := t) mo.o).2
  exact not_large (by omega) (lk_LB mo.o (by omega) h.l) (by omega)
def xL5 (C : Calls) : FS :=
    (sSeq (sAsg (.one 8) (fTup (aCons (fTup (aCons (fTup (aCons (fVar 3) (aCons (fTup aNil) (aCons (fVar 4) aNil)))) aNil)) (aCons (fC (.str "com")) (aCons (fTup (aCons (fC (.str "new")) (aCons (fC (.str "v")) (aCons (fTup (aCons (fC (.str "num")) (aCons (fC (.int 1)) aNil))) (aCons (fTup (aCons (fC (.str "seq")) (aCons (fVar 7) (aCons (fTup (aCons (fC (.str "set")) (aCons (fC (.str "v")) (aCons (fTup (aCons (fC (.str "num")) (aCons (fC (.int 2)) aNil))) aNil)))) aNil)))) aNil))))) aNil)))))
    (sSeq (sFor (iSeq (fLst (aCons (fVar 8) (aCons (fTup (aCons (fTup aNil) (aCons (fC (.str "com")) (aCons (fTup (aCons (fC (.str "stop")) aNil)) aNil)))) (aCons (fTup (aCons (fTup (aCons (fTup (aCons (fVar 3) (aCons (fTup aNil) (aCons (fVar 4) aNil)))) aNil)) (aCons (fC (.str "com")) (aCons (fTup (aCons (fC (.str "skip")) aNil)) aNil)))) (aCons (fDef 1 (C 15) (aCons (fDef 2 (C 9) (aCons (fVar 1) (aCons (fC (.int 40)) aNil))) aNil)) aNil)))))) (.one 9) (sIf (tstB (fOp uNe (fDef 2 (C 14) (aCons (fVar 2) (aCons (fVar 9) aNil))) (fC (.str "right")))) (sRet (fC (.bl false))) sNext))
    (sSeq (sIf (tstB (fOp uNe (fDef 2 (C 14) (aCons (fVar 2) (aCons (fTup (aCons (fTup (aCons (fTup (aCons (fVar 3) (aCons (fTup aNil) (aCons (fVar 4) aNil)))) (aCons (fTup (aCons (fC (.str "none")) (aCons (fTup aNil) (aCons (fC (.str "com")) aNil)))) aNil))) (aCons (fC (.str "com")) (aCons (fTup (aCons (fC (.str "skip")) aNil)) aNil)))) aNil))) (fC (.str "name")))) (sRet (fC (.bl false))) sNext)
    (sSeq (sIf (tstB (fOp uNe (fDef 2 (C 14) (aCons (fVar 2) (aCons (fTup (aCons (fTup (aCons (fTup (aCons (fVar 3) (aCons (fTup aNil) (aCons (fVar 6) aNil)))) (aCons (fTup (aCons (fC (.str "zz")) (aCons (fTup aNil) (aCons (fC (.str "com")) aNil)))) aNil))) (aCons (fC (.str "exp")) (aCons (fTup (aCons (fC (.str "num")) (aCons (fC (.int 1)) aNil))) aNil)))) aNil))) (fC (.str "name")))) (sRet (fC (.bl false))) sNext)
    (sSeq (sFor (iSeq (fLst (aCons (fTup (aCons (fTup (aCons (fTup (aCons (fVar 3) (aCons (fTup aNil) (aCons (fVar 6) aNil)))) aNil)) (aCons (fC (.str "com")) (aCons (fTup (aCons (fC (.str "skip")) aNil)) aNil)))) (aCons (fTup (aCons (fTup (aCons (fTup (aCons (fVar 3) (aCons (fTup (aCons (fC (.str "com")) aNil)) (aCons (fVar 4) aNil)))) aNil)) (aCons (fC (.str "com")) (aCons (fTup (aCons (fC (.str "skip")) aNil)) aNil)))) (aCons (fTup (aCons (fTup aNil) (aCons (fC (.str "exp")) (aCons (fTup (aCons (fC (.str "num")) (aCons (fC (.int 0)) aNil))) aNil)))) aNil))))) (.one 10) (sIf (tstB (fOp uNe (fDef 2 (C 14) (aCons (fVar 2) (aCons (fVar 10) aNil))) (fC (.str "bad kind")))) (sRet (fC (.bl false))) sNext))
    (sSeq (sAsg (.one 11) (fOp uAdd (fCall bLen (aCons (fOp ixU (fVar 2) (fC (.int 0))) aNil)) (fCall bLen (aCons (fOp ixU (fVar 2) (fC (.int 1))) aNil))))
    (sSeq (sIf (tOr' (tstB (fOp uNe (fDef 2 (C 14) (aCons (fVar 2) (aCons (fDef 1 (C 15) (aCons (fC (.int 199)) aNil)) aNil))) (fC (.str "large")))) (tstB (fOp uNe (fDef 2 (C 14) (aCons (fVar 2) (aCons (fDef 1 (C 16) (aCons (fOp uSub (fC (.int 31)) (fVar 11)) aNil)) aNil))) (fC (.str "large"))))) (sRet (fC (.bl false))) sNext)
    (sRet (fOp uEq (fDef 2 (C 14) (aCons (fVar 2) (aCons (fDef 1 (C 16) (aCons (fOp uSub (fC (.int 30)) (fVar 11)) aNil)) aNil))) (fC (.str "right")))))))))))
def xL3 (C : Calls) : FS :=
    (sSeq (sAsg (.one 6) (fOp ixU (fLst (aCons (fC (.str "com")) (aCons (fC (.str "exp")) aNil))) (fCall bInt (aCons (fOp uEq (fVar 4) (fC (.str "com"))) aNil))))
    (sSeq (sAsg (.one 7) (fOp ixU (fLst (aCons (fTup (aCons (fC (.str "call")) (aCons (fVar 3) (aCons (fTup aNil) aNil)))) (aCons (fTup (aCons (fC (.str "while")) (aCons (fTup (aCons (fC (.str "call")) (aCons (fVar 3) (aCons (fTup aNil) aNil)))) (aCons (fTup (aCons (fC (.str "skip")) aNil)) aNil)))) aNil))) (fCall bInt (aCons (fOp uEq (fVar 4) (fC (.str "exp"))) aNil))))
    (xL5 C)))
theorem xL_is (C : Calls) : b_law C = (sSeq (sAsg (.one 1) (fLst (aCons (fDef 1 (C 7) (aCons (fVar 0) aNil)) (aCons (fC (.int 0)) aNil))))
    (sSeq (sAsg (.one 2) (fDef 2 (C 12) (aCons (fVar 1) (aCons (fOp uAdd (fC (.int 1)) (fDef 2 (C 9) (aCons (fVar 1) (aCons (fC (.int 2)) aNil)))) aNil))))
    (sSeq (sAsg (.tup [3, 4, 5]) (fOp ixU (fOp ixU (fVar 2) (fC (.int 1))) (fDef 2 (C 9) (aCons (fVar 1) (aCons (fCall bLen (aCons (fOp ixU (fVar 2) (fC (.int 1))) aNil)) aNil)))))
    (xL3 C)))) := rfl

def DL : Dn := ⟨fun _ _ => False, fun u _ => u = .bl true, fun _ _ => False, fun _ _ => False, fun _ _ _ => False⟩
theorem ne_tru {α : Type} [DecidableEq α] (a : α) : (!decide (a = a)) = false := by simp
theorem xL5_ok {C : Calls} (h9 : NextS (C 9)) (h14 : ToldS (C 14)) (h15 : LongS (C 15)) (h16 : DeepS (C 16)) {u0 : Option U} {r s : Nat} {vs : List (Str × Int)} {os : List (Str × Str × T)} {o : Str × Str × T} {use : T} {other : Str} {μ : Mem}
    (st : St r s μ) (mo : MoOk vs os) (ho : o ∈ os) (hot : other ≠ o.2.1) (ou : ok use) (su : size use ≤ 10) (lu : LB use 2) :
    Dg.wpS (xL5 C [u0, some (.ref s), some (moU vs os), some (.str o.1), some (.str o.2.1), some (toU o.2.2), some (.str other), some (toU use), none, none, none, none] μ) DL := by
  have kO := kOf_mem mo.nd ho
  have nO := mo.nl o ho
  have ol := mo.l
  have ol1 := mo.n
  have vl := mo.v
  unfold xL5 DL
  walk_at "go"
  refine h9.ap st (by omega) fun x μ1 x0 x1 g1 => ?_
  obtain ⟨m, rfl⟩ := Int.eq_ofNat_of_zero_le x0
  refine h15.ap (by omega) ?_
  have hn1 : ∀ d ∈ [(o.1, ([] : List Str), o.2.1)], d.1.length ≤ 100 := fun d hd => by rw [List.mem_singleton.mp hd]; exact nO
  have ha1 : ∀ d ∈ [(o.1, ([] : List Str), o.2.1)], d.2.1 = [] ∧ kOf os d.1 = some d.2.2 := fun d hd => by rw [List.mem_singleton.mp hd]; exact ⟨rfl, kO⟩
  have g0 : GoodC vs os [(o.1, [], o.2.1)] (cliT use) := ⟨by simp, hn1, cli_ok ou, by rw [cli_size]; omega, ha1, cli_LB lu⟩
  have g1 : GoodC vs os [] (.nd (.z "stop") []) := ⟨by simp, by simp, ⟨by simp [hok], rfl, trivial, trivial⟩, by simp [size, sizes], by simp, LB_0.mono (by omega)⟩
  have g2 : GoodC vs os [(o.1, [], o.2.1)] skipT := ⟨by simp, hn1, skip_ok, by simp [skipT, size, sizes], ha1, skip_lb⟩
  have g3 : GoodC vs os [] (longT m) := ⟨by simp, by simp, long_ok m, by rw [long_size]; omega, by simp, (long_LB m).mono (by omega)⟩
  try walk_at "go"
  refine ⟨_, listAt_L get_snoc, ?_⟩
  obtain ⟨us, hus⟩ : ∃ us, us = [clU [(o.1, [], o.2.1)] "com" (cliT use), clU [] "com" (.nd (.z "stop") []), clU [(o.1, [], o.2.1)] "com" skipT, clU [] "com" (longT m)] := ⟨_, rfl⟩
  have hgood : ∀ u ∈ us, ∃ ds t, u = clU ds "com" t ∧ GoodC vs os ds t := by
    rw [hus]
    simp only [List.mem_cons, List.not_mem_nil, or_false, forall_eq_or_imp, forall_eq]
    exact ⟨⟨_, _, rfl, g0⟩, ⟨_, _, rfl, g1⟩, ⟨_, _, rfl, g2⟩, ⟨_, _, rfl, g3⟩⟩
  have hul : us.length = 4 := by rw [hus]; rfl
  have c1 : (μ1 ++ [Cell.lst us])[μ1.length]? = some (.lst us) := get_snoc
  change Dg.wpS (sForGo (Tgt.one 9) _ fuelF _ 0 [u0, some (U.ref s), some (moU vs os), some (U.str o.1), some (U.str o.2.1), some (toU o.2.2), some (U.str other), some (toU use), some (clU [(o.1, [], o.2.1)] "com" (cliT use)), none, none, none] (μ1 ++ [Cell.lst [clU [(o.1, [], o.2.1)] "com" (cliT use), clU [] "com" (.nd (.z "stop") []), clU [(o.1, [], o.2.1)] "com" skipT, clU [] "com" (longT m)]])) _
  rw [← hus]
  generalize μ1 ++ [Cell.lst us] = μ2 at *
  generalize μ1.length = L at *
  refine for_live us (fun i s' μ' => (∃ x9, s' = [u0, some (.ref s), some (moU vs os), some (.str o.1), some (.str o.2.1), some (toU o.2.2), some (.str other), some (toU use), some (clU [(o.1, [], o.2.1)] "com" (cliT use)), x9, none, none]) ∧ Fr μ2 μ') (by omega) ⟨⟨_, rfl⟩, .refl⟩ (fun i s μ h => h.2.at_ _ _ c1) ?_ ?_
  · rintro i s' μ3 hi ⟨⟨x9, rfl⟩, f3⟩
    obtain ⟨ds, t, hu, hg⟩ := hgood us[i] (List.getElem_mem hi)
    rw [hu]
    refine ⟨_, rfl, ?_⟩
    walk_at "go"
    refine h14.right mo hg.d hg.n hg.o hg.s hg.a (hg.nl mo) fun μ4 f4 => ?_
    refine ⟨_, Dg.eq_str, ?_⟩
    rw [if_neg (by simp)]
    exact ⟨⟨_, rfl⟩, f3.trans f4⟩
  · rintro s' μ3 ⟨⟨x9, rfl⟩, f3⟩
    try walk_at "go"
    refine h14.name mo (ds := [(o.1, [], o.2.1), ("none", [], "com")]) (kd := "com") (t := skipT) (by simp) ?_ skip_ok (by simp [skipT, size, sizes]) ⟨("none", [], "com"), by simp, mo.no (by decide) (by decide)⟩ fun μ4 f4 => ?_
    · intro d hd
      simp only [List.mem_cons, List.not_mem_nil, or_false] at hd
      rcases hd with rfl | rfl
      · exact nO
      · decide
    refine ⟨_, Dg.eq_str, ?_⟩
    rw [if_neg (by simp)]
    refine h14.name mo (ds := [(o.1, [], other), ("zz", [], "com")]) (kd := "exp") (t := .nd (.x "num" (.int 1)) []) (by simp) ?_ num_ok (by simp [size, sizes]) ⟨("zz", [], "com"), by simp, mo.no (by decide) (by decide)⟩ fun μ5 f5 => ?_
    · intro d hd
      simp only [List.mem_cons, List.not_mem_nil, or_false] at hd
      rcases hd with rfl | rfl
      · exact nO
      · decide
    refine ⟨_, Dg.eq_str, ?_⟩
    rw [if_neg (by simp)]
    try walk_at "go"
    refine ⟨_, listAt_L get_snoc, ?_⟩
    obtain ⟨ws, hws⟩ : ∃ ws, ws = [clU [(o.1, [], other)] "com" skipT, clU [(o.1, ["com"], o.2.1)] "com" skipT, clU [] "exp" (.nd (.x "num" (.int 0)) [])] := ⟨_, rfl⟩
    have hbad : ∀ u ∈ ws, ∃ ds kd t, u = clU ds kd t ∧ ds.length ≤ 100 ∧ (∀ d ∈ ds, d.1.length ≤ 100) ∧ ok t ∧ size t ≤ 100 ∧ (∀ d ∈ ds, (kOf os d.1).isSome = true) ∧ (kd ≠ "com" ∨ ∃ d ∈ ds, d.2.1 ≠ [] ∨ kOf os d.1 ≠ some d.2.2) := by
      rw [hws]
      simp only [List.mem_cons, List.not_mem_nil, or_false, forall_eq_or_imp, forall_eq]
      refine ⟨⟨_, _, _, rfl, by simp, ?_, skip_ok, by simp [skipT, size, sizes], ?_, .inr ⟨(o.1, [], other), List.mem_singleton.mpr rfl, .inr ?_⟩⟩, ⟨_, _, _, rfl, by simp, ?_, skip_ok, by simp [skipT, size, sizes], ?_, .inr ⟨(o.1, ["com"], o.2.1), List.mem_singleton.mpr rfl, .inl ?_⟩⟩, ⟨_, _, _, rfl, by simp, by simp, num_ok, by simp [size, sizes], by simp, .inl (by decide)⟩⟩
      · intro d hd; rw [List.mem_singleton.mp hd]; exact nO
      · intro d hd; rw [List.mem_singleton.mp hd]; simp only; rw [kO]; rfl
      · simp only; rw [kO]; exact fun e => hot (Option.some.inj e).symm
      · intro d hd; rw [List.mem_singleton.mp hd]; exact nO
      · intro d hd; rw [List.mem_singleton.mp hd]; simp only; rw [kO]; rfl
      · simp
    have hwl : ws.length = 3 := by rw [hws]; rfl
    have c5 : (μ5 ++ [Cell.lst ws])[μ5.length]? = some (.lst ws) := get_snoc
    change Dg.wpS (sForGo (Tgt.one 10) _ fuelF _ 0 _ (μ5 ++ [Cell.lst [clU [(o.1, [], other)] "com" skipT, clU [(o.1, ["com"], o.2.1)] "com" skipT, clU [] "exp" (.nd (.x "num" (.int 0)) [])]])) _
    rw [← hws]
    generalize μ5 ++ [Cell.lst ws] = μ6 at *
    generalize μ5.length = M at *
    refine for_live ws (fun i s' μ' => (∃ x10, s' = [u0, some (.ref s), some (moU vs os), some (.str o.1), some (.str o.2.1), some (toU o.2.2), some (.str other), some (toU use), some (clU [(o.1, [], o.2.1)] "com" (cliT use)), x9, x10, none]) ∧ Fr μ6 μ') (by omega) ⟨⟨_, rfl⟩, .refl⟩ (fun i s μ h => h.2.at_ _ _ c5) ?_ ?_
    · rintro i s' μ7 hi ⟨⟨x10, rfl⟩, f7⟩
      obtain ⟨ds, kd, t, hu, b1, b2, b3, b4, b5, b6⟩ := hbad ws[i] (List.getElem_mem hi)
      rw [hu]
      refine ⟨_, rfl, ?_⟩
      walk_at "go"
      refine h14.kind mo b1 b2 b3 b4 b5 b6 fun μ8 f8 => ?_
      refine ⟨_, Dg.eq_str, ?_⟩
      rw [if_neg (by simp)]
      exact ⟨⟨_, rfl⟩, f7.trans f8⟩
    · rintro s' μ7 ⟨⟨x10, rfl⟩, f7⟩
      have eA : moU vs os = .tup [.tup (vs.map vU), .tup (os.map oU)] := rfl
      rw [eA]
      walk_at "go"
      rw [List.length_map, List.length_map, ← eA]
      obtain ⟨c, hc⟩ : ∃ c : Nat, vs.length + os.length + c = 30 := ⟨30 - (vs.length + os.length), by omega⟩
      have e31 : (31 : Int) - (↑vs.length + ↑os.length) = ((c + 1 : Nat) : Int) := by omega
      obtain ⟨c', rfl⟩ : ∃ c', c = c' + 1 := ⟨c - 1, by omega⟩
      have e30 : (30 : Int) - (↑vs.length + ↑os.length) = ((c' + 1 : Nat) : Int) := by omega
      rw [e31, e30]
      refine h15.ap (m := 199) (by omega) ?_
      have z1 := long_size 199
      refine h14.large mo (long_ok 199) (by omega) (.inl ?_) fun μ8 f8 => ?_
      · have := (lk_size (vs := vs) (t := longT 199) mo.o).1
        omega
      refine ⟨_, Dg.eq_str, ?_⟩
      rw [if_neg (by simp)]
      refine h16.ap (m := c' + 1) (by omega) (by omega) ?_
      have z2 := deep_size (c' + 1)
      refine h14.large mo (deep_ok (c' + 1)) (by omega) (HL_large (lk_HL (deep_HL (c' + 1))) (by omega)) fun μ9 f9 => ?_
      refine ⟨_, Dg.eq_str, ?_⟩
      rw [if_neg (by simp)]
      refine h16.ap (m := c') (by omega) (by omega) ?_
      have z3 := deep_size c'
      refine h14.right mo (ds := []) (by simp) (by simp) (deep_ok c') (by omega) (by simp) ?_ fun μ10 f10 => ?_
      · have h4 := (lk_size (vs := vs) (t := deepT c') mo.o).2
        exact not_large (by omega) (lk_LB mo.o (by omega) (deep_LB c')) (by omega)
      refine ⟨_, Dg.eq_str, ?_⟩
      simp
theorem law_ok {C : Calls} (h7 : StreamS (C 7)) (h9 : NextS (C 9)) (h12 : ModS (C 12)) (h14 : ToldS (C 14)) (h15 : LongS (C 15)) (h16 : DeepS (C 16)) {ns : List Int} (hl : ns.length ≤ 63) : Yes (runDef 12 (b_law C) [.frl (ns.map U.int)] []) := by
  refine Yes.of ?_
  rw [xL_is]
  walk_at "go"
  refine h7.ap hl fun nums r μ1 hn f1 c1 => ?_
  try walk_at "go"
  have st : St r μ1.length (μ1 ++ [Cell.lst [U.ref r, U.int 0]]) := ⟨by have := get_lt c1; omega, ⟨nums, hn, get_snoc_lt c1⟩, ⟨0, get_snoc⟩⟩
  generalize μ1 ++ [Cell.lst [U.ref r, U.int 0]] = μ2 at *
  generalize μ1.length = s at *
  refine h9.ap st (by omega) fun x μ3 x0 x1 g3 => ?_
  try walk_at "go"
  refine h12.ap g3.st (by omega) fun vs os μ4 mo g4 => ?_
  have eA : moU vs os = .tup [.tup (vs.map vU), .tup (os.map oU)] := rfl
  rw [eA]
  rw [s_asg]
  try walk_at "go"
  rw [List.length_map]
  have ol := mo.n
  refine h9.ap g4.st (by omega) fun y μ5 y0 y1 g5 => ?_
  obtain ⟨j, rfl⟩ := Int.eq_ofNat_of_zero_le y0
  have hj : j < os.length := by omega
  try walk_at "go"
  refine ⟨_, by rw [Dg.atI_nat, List.getElem?_map, List.getElem?_eq_getElem hj]; rfl, ?_⟩
  refine ⟨_, rfl, ?_⟩
  simp only [setAll]
  rw [← eA]
  have ho : os[j] ∈ os := List.getElem_mem hj
  generalize os[j] = o at *
  simp only [List.set_cons_succ, List.set_cons_zero]
  unfold xL3
  try walk_at "go"
  rcases (mo.o o ho).kd with hk | hk
  · have n1 : ¬ o.2.1 = "exp" := by rw [hk]; decide
    rw [if_pos hk, w_ixL get_snoc]
    refine ⟨.str "exp", rfl, ?_⟩
    have f6 : Fr μ5 (μ5 ++ [Cell.lst [U.str "com", U.str "exp"]]) := Fr.refl.snoc
    generalize μ5 ++ [Cell.lst [U.str "com", U.str "exp"]] = μ6 at *
    rw [if_neg n1, w_ixL get_snoc]
    refine ⟨toU (callT o.1), rfl, ?_⟩
    exact xL5_ok h9 h14 h15 h16 ((g5.st.fr f6).fr Fr.refl.snoc) mo ho (by rw [hk]; decide) call_ok (by simp [callT, size, sizes]) (LB_0.mono (by omega))
  · have n1 : ¬ o.2.1 = "com" := by rw [hk]; decide
    rw [if_neg n1, w_ixL get_snoc]
    refine ⟨.str "com", rfl, ?_⟩
    have f6 : Fr μ5 (μ5 ++ [Cell.lst [U.str "com", U.str "exp"]]) := Fr.refl.snoc
    generalize μ5 ++ [Cell.lst [U.str "com", U.str "exp"]] = μ6 at *
    rw [if_pos hk, w_ixL get_snoc]
    refine ⟨toU (.nd .wh [callT o.1, skipT]), rfl, ?_⟩
    exact xL5_ok h9 h14 h15 h16 ((g5.st.fr f6).fr Fr.refl.snoc) mo ho (by rw [hk]; decide) callw_ok (by simp [callT, skipT, size, sizes]) (LB_nd (all2 (LB_0.mono (by omega)) (skip_lb (b := 1))))
theorem kids_t (k : Nat) : KidsS (call (k + 1) 0) := kids_s (C := call k)
theorem lv_t (k : Nat) : LvS (call (k + 1) 1) := lv_s (C := call k)
theorem nodes_t (k : Nat) : NodesS (call (k + 2) 2) := nodes_s (C := call (k + 1)) (kids_t k) (lv_t k)
theorem large_t (k : Nat) : LargeS (call (k + 3) 3) := large_s (C := call (k + 2)) (nodes_t k)
theorem with_v_t (k : Nat) : WithVS (call (k + 1) 4) := with_v_s (C := call k)
theorem check_t (k : Nat) : CheckS (call (k + 1) 5) := check_s (C := call k)
theorem link_t (k : Nat) : LinkS (call (k + 4) 6) := link_s (C := call (k + 3)) (large_t k) (with_v_t (k + 2)) (check_t (k + 2))
theorem stream_t (k : Nat) : StreamS (call (k + 1) 7) := stream_s (C := call k)
theorem next_t (k : Nat) : NextS (call (k + 1) 9) := next_s (C := call k)
theorem linked_t (k : Nat) : LinkedS (call (k + 1) 13) := linked_s (C := call k)
theorem told_t (k : Nat) : ToldS (call (k + 5) 14) := told_s (C := call (k + 4)) (link_t k) (linked_t (k + 3))
theorem long_t (k : Nat) : LongS (call (k + 1) 15) := long_s (C := call k)
theorem deep_t (k : Nat) : DeepS (call (k + 1) 16) := deep_s (C := call k)
theorem gen_t : ∀ n k : Nat, ExpS n (call (k + (n + 3)) 10) ∧ ComS n (call (k + (n + 3)) 11)
  | 0, k => by
    have e0 : ExpS 0 (call (k + 2) 10) := exp_s (C := call (k + 1)) (next_t k) (fun _ h => by omega)
    have e1 : ExpS 0 (call (k + 3) 10) := exp_s (C := call (k + 2)) (next_t (k + 1)) (fun _ h => by omega)
    exact ⟨e1, com_s (C := call (k + 2)) (next_t (k + 1)) e0 (fun _ h => by omega)⟩
  | n + 1, k => by
    obtain ⟨a, b⟩ := gen_t n k
    refine ⟨exp_s (C := call (k + (n + 3))) (next_t (k + (n + 2))) (fun j h => ?_), com_s (C := call (k + (n + 3))) (next_t (k + (n + 2))) a (fun j h => ?_)⟩
    · obtain rfl : n = j := by omega
      exact ⟨a, b⟩
    · obtain rfl : n = j := by omega
      exact b
theorem mod_t (k : Nat) : ModS (call (k + 6) 12) := mod_s (C := call (k + 5)) (next_t (k + 4)) (gen_t 2 k).1 (gen_t 2 k).2
theorem law_yes (k : Nat) {ns : List Int} (hl : ns.length ≤ 63) : Yes (call (k + 190) 17 [.frl (ns.map U.int)] []) := by
  obtain ⟨K, hK⟩ : ∃ K, k + 190 = K + 1 := ⟨k + 189, rfl⟩
  have m : ∀ {P : Nat → Prop} (j : Nat), P j → j = K → P K := fun j h e => e ▸ h
  rw [hK]
  refine law_ok (C := call K) ?_ ?_ ?_ ?_ ?_ ?_ hl
  · exact m (P := fun j => StreamS (call j 7)) _ (stream_t (K - 1)) (by omega)
  · exact m (P := fun j => NextS (call j 9)) _ (next_t (K - 1)) (by omega)
  · exact m (P := fun j => ModS (call j 12)) _ (mod_t (K - 6)) (by omega)
  · exact m (P := fun j => ToldS (call j 14)) _ (told_t (K - 5)) (by omega)
  · exact m (P := fun j => LongS (call j 15)) _ (long_t (K - 1)) (by omega)
  · exact m (P := fun j => DeepS (call j 16)) _ (deep_t (K - 1)) (by omega)
theorem law_true (ns : List Int) (h : ns.length ≤ 63) : ∃ μ, call 190 17 [.frl (ns.map U.int)] [] = .ok (.bl true) μ := (law_yes 0 h).ap
end Lw
open PySem PySem.W PySem.Calls PyProof.Rows
set_option maxRecDepth 100000 in
set_option maxHeartbeats 0 in
theorem PySem.Challenge.cw_doppelganger_k75_clients_refused_holds : PySem.Challenge.rw_doppelganger_k75_clients_refused.Holds := by
  w_on; o_law
  refine HandSHeadRun.head_any (r := OpenLaw.row PySem.Challenge.rw_doppelganger_k75_clients_refused) (q := view (OpenLaw.row PySem.Challenge.rw_doppelganger_k75_clients_refused).prog [31]) (H := Lw.hk) (ob := Lw.ob) (M := 4000) (loose := Lw.hloose) (d := HandSHeadRun.topDef (OpenLaw.row PySem.Challenge.rw_doppelganger_k75_clients_refused).prog 31) (kwd := []) Lw.ob_eq
    (by kernel_rfl) (fun s => by kernel_rfl) Lw.run (by kernel_rfl) (by kernel_rfl) (by kernel_rfl) (by rfl) (by first | assumption | decide +kernel) (by decide +kernel) ⟨rfl, rfl, rfl, rfl, rfl, by decide +kernel⟩ ?hw ?hc
  case hw => w_witness2
  case hc =>
    refine Dg.walk_dg (l := PySem.Challenge.rw_doppelganger_k75_clients_refused) (n := 63) (k := 190 + 40) (x := "script") (CX := fun w => L2.CX (PySem.Challenge.rw_doppelganger_k75_clients_refused).prog w) rfl (by decide) (by kernel_rfl) ⟨rfl, by decide, by decide⟩ (fun w H s e s2 z => Dg.cx_none H s e s2 z) ?F
    intro w mg fa h Y G hmg0
    obtain ⟨K, KX, c⟩ := Y
    have hmg : mg ("law" : PySem.Str) = some (.ref fa) := by
      have e : (HandSHeadRun.topDef (OpenLaw.row PySem.Challenge.rw_doppelganger_k75_clients_refused).prog 31).name = ("law" : PySem.Str) := by kernel_rfl
      rw [← e]
      exact hmg0
    obtain ⟨fd, Fx⟩ := Lw.facts (w := w) KX G c
    have ea := hmg.symm.trans Fx.m17
    cases ea
    exact ⟨K, fd 17, Dg.spF K mg 1 (Lw.call 190 17), KX, fun s v => L2.FunD.bindsA (ps := ["script"]) Fx.F17 (fun _ _ _ _ _ _ us hl => match us, hl with | [_], _ => rfl) s [v] rfl, fun H a ns hl ho hS => Dg.end_of (Lw.law_true ns hl) ho hS, fun base _ _ => (Lw.tab Fx 190).G17⟩

