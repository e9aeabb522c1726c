import PyProof.Rows.All
import Wide.All
import OpenK.AllK
import Wide.FinOn
import HandS.Conv
import HandS.Deep
import HandS.Defaults
import HandS.DictComp
import HandS.DictTup
import HandS.Exc
import HandS.ExcIs
import HandS.ExcOwn
import HandS.FStr
import HandS.ForMost
import HandS.Head0
import HandS.Head1
import HandS.Head2
import HandS.HeadEnd
import HandS.HeadHook1
import HandS.HeadHook2
import HandS.HeadHook3
import HandS.IsInst
import HandS.Iter
import HandS.More
import HandS.RaiseMore
import HandS.Rev
import HandS.RevRange
import HandS.SortInts
import HandS.SortRule
import HandS.Star
import HandS.StrSplit
import HandS.Style
import HandS.Text
import HandS.TryMany
import HandS.TryOnly
import HandS.TupAny
import HandS.TupMul
import HandS.WordsDict
import HandS.WordsExc
import HandS.Zip
import KE.DatumOrd
import KE.GoesEnum
import KE.GoesMore
import KE.KDictDisplayH
import KE.KItemsList
import KE.KStateDown
import Lean
import PyProof.ExcBaseAll.ValueError
import PySem.Challenge.RW_doppelganger_k36_letters_and_texts
set_option Elab.async false
set_option linter.all false
set_option maxRecDepth 100000
set_option maxHeartbeats 0
/-! Dg0: rules that the hand layer lacks: tuples: + with an empty one first, * by any number. -/
namespace Dg
open PySem PySem.Spec PyProof.Rows L2
theorem tuple_addW0 (l b : Addr) (items items2 : Array Value) (n n2 : Nat) (dd dd2 : Option Addr) (sl sl2 : Array (Option Value)) (hc0 : items.isEmpty = true) :
    Meets (Builtin.«tuple.__add__» ⟨[.ref l, .ref b], []⟩) (fun _ R s => s.heap.get? l = some { cls := .type "tuple", dict := dd, data := .seq items n, slots := sl } ∧ s.heap.get? b = some { cls := .type "tuple", dict := dd2, data := .seq items2 n2, slots := sl2 } ∧ R (.ok (.ret (Value.ref b))) s) :=
  .of_wp fun prog w A R s h => by
    obtain ⟨hp, g, d, tk, os⟩ := s
    obtain ⟨hl, hb, h⟩ := h
    have f1 := AutoSeq1.idx_int; have f2 := AutoSeq1.sub_tuple_tuple; have f3 := AutoSeq1.sub_list_list; have f4 := AutoSeq1.sub_tuple_list; have f5 := AutoSeq1.sub_list_tuple
    wp_walk using wpAny_loadPart' hl, wpAny_loadPart' hb
    exact ⟨_, rfl, h⟩
theorem tuple_mulW1 (l : Addr) (items : Array Value) (n : Nat) (dd : Option Addr) (sl : Array (Option Value)) (x : Int) (u : Tok) (c0 : (decide (x < -(2 ^ 63)) || decide (x ≥ 2 ^ 63)) = false) (c1 : (items.isEmpty || x == 1) = true) :
    Meets (Builtin.«tuple.__mul__» ⟨[.ref l, .int x u], []⟩) (fun _ R s => s.heap.get? l = some { cls := .type "tuple", dict := dd, data := .seq items n, slots := sl } ∧ R (.ok (.ret (Value.ref l))) s) :=
  .of_wp fun prog w A R s h => by
    obtain ⟨hp, g, d, tk, os⟩ := s
    obtain ⟨hl, h⟩ := h
    have f1 := AutoSeq1.idx_int
    wp_walk using wpAny_loadPart' hl
    repeat (first
      | (refine wpAny_ite_false (decide_eq_false (by rw [c0]; exact Bool.false_ne_true)) ?_; wp_walk using wpAny_loadPart' hl)
      | (refine wpAny_ite_true c1 ?_; wp_walk using wpAny_loadPart' hl))
    exact ⟨_, rfl, h⟩
theorem tuple_mulW0 (l : Addr) (items : Array Value) (n : Nat) (dd : Option Addr) (sl : Array (Option Value)) (x : Int) (u : Tok) (c0 : (decide (x < -(2 ^ 63)) || decide (x ≥ 2 ^ 63)) = false) (c1 : (items.isEmpty || x == 1) = false) (c2 : (decide (x ≤ 0) || items.isEmpty) = true) :
    Meets (Builtin.«tuple.__mul__» ⟨[.ref l, .int x u], []⟩) (fun _ R s => s.heap.get? l = some { cls := .type "tuple", dict := dd, data := .seq items n, slots := sl } ∧
      R (.ok (.ret (Value.ref s.heap.objs.size))) { s with heap := s.heap.push { cls := Value.type "tuple", data := Data.seq #[] }, toks := s.toks }) :=
  .of_wp fun prog w A R s h => by
    obtain ⟨hp, g, d, tk, os⟩ := s
    obtain ⟨hl, h⟩ := h
    have f1 := AutoSeq1.idx_int
    wp_walk using wpAny_loadPart' hl
    repeat (first
      | (refine wpAny_ite_false (decide_eq_false (by rw [c0]; exact Bool.false_ne_true)) ?_; wp_walk using wpAny_loadPart' hl)
      | (refine wpAny_ite_false (decide_eq_false (by rw [c1]; exact Bool.false_ne_true)) ?_; wp_walk using wpAny_loadPart' hl)
      | (refine wpAny_ite_true c2 ?_; wp_walk using wpAny_loadPart' hl))
    exact ⟨_, rfl, h⟩
section
variable {X : Cx}
theorem op_cat0 : OpR X (binaryOp .Add) (fun x y H Q => ∃ a b ys, x = .ref a ∧ y = .ref b ∧ SqT X.K H a [] ∧ SqT X.K H b ys ∧ Q (.ref b) H) := by
  intro pins s σ H x y v u Q I rx ry h
  obtain ⟨a, b, ys, rfl, rfl, ha, hb, q⟩ := h
  cases rx
  cases ry
  obtain ⟨its, r1, ⟨⟨cls, dd, data, sl⟩, ho, hc, n, hd⟩, _⟩ := I.tuple ha
  obtain ⟨its2, r2, ⟨⟨cls2, dd2, data2, sl2⟩, ho2, hc2, n2, hd2⟩, _⟩ := I.tuple hb
  simp only at hc hd hc2 hd2
  subst hc hd hc2 hd2
  cases r1
  exact concat_meets ⟨_, ho, rfl⟩ ⟨_, ho2, rfl⟩ noFill_tuple_add seq_tuple_add PySem.F.slot_tuple_add PySem.F.entry_tuple_add (PySem.F.args_tuple_add_2 _ _)
    (tuple_addW0 a b _ _ n n2 dd dd2 sl sl2 rfl) ⟨ho, ho2, ⟨.ref b, H, I, rfl, q⟩⟩
theorem op_repT1 : OpR X (binaryOp .Mult) (fun x y H Q => ∃ l k xs, x = .ref l ∧ y = .int k ∧ SqT X.K H l xs ∧ (xs = [] ∨ k = 1) ∧ -(2 ^ 62) ≤ k ∧ k < 2 ^ 62 ∧ Q (.ref l) H) := by
  intro pins s σ H x y v u Q I rx ry h
  obtain ⟨l, k, xs, rfl, rfl, hT, hne, h1, h2, q⟩ := h
  cases rx
  obtain ⟨t, rfl⟩ := ry
  obtain ⟨its, r, ⟨⟨cls, dd, data, sl⟩, ho, hc, n, hd⟩, hs⟩ := I.tuple hT
  simp only at hc hd
  subst hc hd
  have c0 : (decide (k < -(2 ^ 63)) || decide (k ≥ 2 ^ 63)) = false := by
    rw [decide_eq_false (by omega), decide_eq_false (by omega)] <;> rfl
  have c1 : (its.toArray.isEmpty || k == 1) = true := by
    rcases hne with e | e
    · subst e; cases r; rfl
    · subst e; simp
  exact wpAny_binaryOp_repeat_ref (T := "tuple") (U := "int") (by decide) ⟨_, ho, rfl⟩ (fun s' => typeIs_int s' k t) noFill_tuple_mul F.fills_int_mul F.slot_int_rmul repeat_tuple F.slot_int_index.lookup
    (call_meets F.slot_int_rmul (typeIs_int s k t) F.entry_int_rmul (F.args_int_rmul_2 _ _) (int_rmul_tuple k t l its.toArray n dd sl)
      ⟨ho, rfl, ⟨_, ho, rfl⟩, call_meets F.slot_tuple_mul ⟨_, ho, rfl⟩ F.entry_tuple_mul (F.args_tuple_mul_2 _ _) (tuple_mulW1 l its.toArray n dd sl k t c0 c1) ⟨ho, ⟨.ref l, H, I, rfl, q⟩⟩⟩)
theorem op_repT0 : OpR X (binaryOp .Mult) (fun x y H Q => ∃ l k xs, x = .ref l ∧ y = .int k ∧ SqT X.K H l xs ∧ xs ≠ [] ∧ -(2 ^ 62) ≤ k ∧ k ≤ 0 ∧ ∀ p, H p = none → Q (.ref p) (upd H p (.tup []))) := by
  intro pins s σ H x y v u Q I rx ry h
  obtain ⟨l, k, xs, rfl, rfl, hT, hne, h1, h2, q⟩ := h
  cases rx
  obtain ⟨t, rfl⟩ := ry
  obtain ⟨its, r, ⟨⟨cls, dd, data, sl⟩, ho, hc, n, hd⟩, hs⟩ := I.tuple hT
  simp only at hc hd
  subst hc hd
  have hn : its ≠ [] := fun e => hne (by
    have := r.length
    rw [e] at this
    exact List.eq_nil_of_length_eq_zero this)
  have c0 : (decide (k < -(2 ^ 63)) || decide (k ≥ 2 ^ 63)) = false := by
    rw [decide_eq_false (by omega), decide_eq_false (by omega)] <;> rfl
  have hi : its.toArray.isEmpty = false := by
    cases its with
    | nil => exact absurd rfl hn
    | cons a b => rfl
  have c1 : (its.toArray.isEmpty || k == 1) = false := by
    rw [hi, Bool.false_or]
    exact beq_eq_false_iff_ne.mpr (by omega)
  have c2 : (decide (k ≤ 0) || its.toArray.isEmpty) = true := by
    rw [decide_eq_true h2]; rfl
  exact wpAny_binaryOp_repeat_ref (T := "tuple") (U := "int") (by decide) ⟨_, ho, rfl⟩ (fun s' => typeIs_int s' k t) noFill_tuple_mul F.fills_int_mul F.slot_int_rmul repeat_tuple F.slot_int_index.lookup
    (call_meets F.slot_int_rmul (typeIs_int s k t) F.entry_int_rmul (F.args_int_rmul_2 _ _) (int_rmul_tuple k t l its.toArray n dd sl)
      ⟨ho, rfl, ⟨_, ho, rfl⟩, call_meets F.slot_tuple_mul ⟨_, ho, rfl⟩ F.entry_tuple_mul (F.args_tuple_mul_2 _ _) (tuple_mulW0 l its.toArray n dd sl k t c0 c1 c2)
        ⟨ho, ⟨.ref s.heap.objs.size, _, I.laid (t' := s.toks) (o := .tup []) (fun b ob q => Heap.get?_push_of_some _ q) (Nat.le_refl _) ⟨by simp, [], .nil, IsTup.new _ _⟩, rfl, q _ (I.hok.fresh (Nat.le_refl _))⟩⟩⟩)
end
end Dg
/-! Dg1: values, cells, how they lie in the heap, and outcomes. -/
namespace Dg
open PySem PySem.Spec PyProof.Rows L2

/-! ### values and memory of the mirror -/
inductive U where
  | non | bl (b : Bool) | int (i : Int) | str (s : Str) | tup (xs : List U) | ref (i : Nat)
  /-- a list that is never changed (the script) -/
  | frl (xs : List U)
inductive Cell where
  | lst (xs : List U)
  | dct (kvs : List (Key × U))
  /-- a dict that is being walked -/
  | fdc (kvs : List (Key × U))
  /-- a dict whose keys are tuples of ints -/
  | dtt (kvs : List (List Int × U))
  /-- one whose keys are tuples of ints, while it is walked -/
  | fdt (kvs : List (List Int × U))
  /-- an instance of the class: its attributes -/
  | obj (c : Str) (fs : List (Str × U))
abbrev Mem := List Cell
abbrev Slots := List (Option U)
inductive Res (α : Type) where
  | ok (a : α) (m : Mem)
  | ex (c : Str) (m : Mem)
  | bad
def Res.bind {α β : Type} (r : Res α) (k : α → Mem → Res β) : Res β := match r with
  | .ok a m => k a m
  | .ex c m => .ex c m
  | .bad => .bad
inductive Out where
  | nx (s : Slots) (m : Mem)
  | rt (u : U) (m : Mem)
  | bk (s : Slots) (m : Mem)
  | ct (s : Slots) (m : Mem)
  | ex (c : Str) (s : Slots) (m : Mem)
  | bad
abbrev FE := Slots → Mem → Res U
abbrev FT := Slots → Mem → Res Bool
abbrev FA := Slots → Mem → Res (List U)
abbrev FS := Slots → Mem → Out

/-! ### how a value lies -/
/-- a list that stays as it is -/
def FrL (K : PySem.W.Frag) (H : Hp) (a : Addr) (xs : List V) : Prop :=
  (∃ o, H a = some (.frz o (.lst xs))) ∨
    ∃ (o : Obj) (its : Array Value) (n : Nat), K.lookup a = some o ∧ o.cls = .type "list" ∧ o.dict = none ∧ o.data = .seq its n ∧ its.size ≤ sizeLine ∧ Vals xs its.toList
theorem FrL.sq {K : PySem.W.Frag} {H : Hp} {a : Addr} {xs : List V} (h : FrL K H a xs) : SqL K H a xs := by
  rcases h with ⟨o, h⟩ | h
  · exact .inl (.inr ⟨o, h⟩)
  · exact .inr h
mutual
inductive RepV (K : PySem.W.Frag) (H : Hp) (ρ : List Addr) : U → V → Prop
  | non : RepV K H ρ .non .non
  | bl {b : Bool} : RepV K H ρ (.bl b) (.bl b)
  | int {i : Int} : RepV K H ρ (.int i) (.int i)
  | str {s : Str} : PyData.strOk s = true → RepV K H ρ (.str s) (.str s)
  | tup {us : List U} {a : Addr} {vs : List V} : SqT K H a vs → RepVs K H ρ us vs → RepV K H ρ (.tup us) (.ref a)
  | ref {i : Nat} {a : Addr} : ρ[i]? = some a → RepV K H ρ (.ref i) (.ref a)
  | frl {us : List U} {a : Addr} {vs : List V} : FrL K H a vs → RepVs K H ρ us vs → RepV K H ρ (.frl us) (.ref a)
inductive RepVs (K : PySem.W.Frag) (H : Hp) (ρ : List Addr) : List U → List V → Prop
  | nil : RepVs K H ρ [] []
  | cons {u : U} {us : List U} {v : V} {vs : List V} : RepV K H ρ u v → RepVs K H ρ us vs → RepVs K H ρ (u :: us) (v :: vs)
end
/-- tuples and what is locked stay -/
def TX (H H' : Hp) : Prop := (∀ a xs, Rd H a (.tup xs) → Rd H' a (.tup xs)) ∧ ∀ a o u, H a = some (.frz o u) → H' a = some (.frz o u)
theorem TX.refl (H : Hp) : TX H H := ⟨fun _ _ h => h, fun _ _ _ h => h⟩
theorem TX.trans {H H1 H2 : Hp} (a : TX H H1) (b : TX H1 H2) : TX H H2 := ⟨fun x o h => b.1 x o (a.1 x o h), fun x o u h => b.2 x o u (a.2 x o u h)⟩
/-- what may be changed: no tuple, nothing locked -/
def Sft (o : HO) : Prop := (∀ xs, o ≠ .tup xs) ∧ ∀ z u, o ≠ .frz z u
theorem TX.put {H : Hp} {p : Addr} {o : HO} (h : ∀ o', H p = some o' → Sft o') : TX H (upd H p o) := ⟨fun a xs r => by
  rcases r with r | ⟨z, r⟩
  · have ne : a ≠ p := fun e => (h _ (e ▸ r)).1 xs rfl
    exact .inl (by rw [upd_ne ne]; exact r)
  · have ne : a ≠ p := fun e => (h _ (e ▸ r)).2 z _ rfl
    exact .inr ⟨z, by rw [upd_ne ne]; exact r⟩, fun a z u r => by
  have ne : a ≠ p := fun e => (h _ (e ▸ r)).2 z u rfl
  rw [upd_ne ne]; exact r⟩
theorem TX.new {H : Hp} {p : Addr} {o : HO} (h : H p = none) : TX H (upd H p o) := TX.put (fun o' r => by rw [h] at r; cases r)
/-- tuples and locked lists stay: what values need -/
def TV (H H' : Hp) : Prop := (∀ a xs, Rd H a (.tup xs) → Rd H' a (.tup xs)) ∧ ∀ a o xs, H a = some (.frz o (.lst xs)) → H' a = some (.frz o (.lst xs))
theorem TX.tv {H H' : Hp} (t : TX H H') : TV H H' := ⟨t.1, fun a o xs h => t.2 a o _ h⟩
theorem TV.seq {K : PySem.W.Frag} {H H' : Hp} {a : Addr} {xs : List V} (t : TV H H') (h : SqT K H a xs) : SqT K H' a xs := by
  rcases h with h | h
  · exact .inl (t.1 a xs h)
  · exact .inr h
theorem TV.frl {K : PySem.W.Frag} {H H' : Hp} {a : Addr} {xs : List V} (t : TV H H') (h : FrL K H a xs) : FrL K H' a xs := by
  rcases h with ⟨o, h⟩ | h
  · exact .inl ⟨o, t.2 a o _ h⟩
  · exact .inr h
theorem TX.seq {K : PySem.W.Frag} {H H' : Hp} {a : Addr} {xs : List V} (t : TX H H') (h : SqT K H a xs) : SqT K H' a xs := by
  rcases h with h | h
  · exact .inl (t.1 a xs h)
  · exact .inr h
theorem TX.frl {K : PySem.W.Frag} {H H' : Hp} {a : Addr} {xs : List V} (t : TX H H') (h : FrL K H a xs) : FrL K H' a xs := by
  rcases h with ⟨o, h⟩ | h
  · exact .inl ⟨o, t.2 a o _ h⟩
  · exact .inr h
def Ext (ρ ρ' : List Addr) : Prop := ∃ l, ρ' = ρ ++ l
theorem Ext.refl (ρ : List Addr) : Ext ρ ρ := ⟨[], by simp⟩
theorem Ext.trans {a b c : List Addr} (h : Ext a b) (g : Ext b c) : Ext a c := by
  obtain ⟨l, rfl⟩ := h
  obtain ⟨r, rfl⟩ := g
  exact ⟨l ++ r, by simp⟩
theorem Ext.get {ρ ρ' : List Addr} (h : Ext ρ ρ') {i : Nat} {a : Addr} (e : ρ[i]? = some a) : ρ'[i]? = some a := by
  obtain ⟨l, rfl⟩ := h
  have : i < ρ.length := by
    rw [List.getElem?_eq_some_iff] at e
    exact e.1
  rw [List.getElem?_append_left this]
  exact e
theorem Ext.snoc (ρ : List Addr) (p : Addr) : Ext ρ (ρ ++ [p]) := ⟨[p], rfl⟩
section
variable {K : PySem.W.Frag} {H H' : Hp} {ρ ρ' : List Addr}
mutual
theorem RepV.monoV (t : TV H H') (e : Ext ρ ρ') : ∀ {u : U} {v : V}, RepV K H ρ u v → RepV K H' ρ' u v
  | _, _, .non => .non
  | _, _, .bl => .bl
  | _, _, .int => .int
  | _, _, .str h => .str h
  | _, _, .tup h r => .tup (t.seq h) (RepVs.monoV t e r)
  | _, _, .ref h => .ref (e.get h)
  | _, _, .frl h r => .frl (t.frl h) (RepVs.monoV t e r)
theorem RepVs.monoV (t : TV H H') (e : Ext ρ ρ') : ∀ {us : List U} {vs : List V}, RepVs K H ρ us vs → RepVs K H' ρ' us vs
  | _, _, .nil => .nil
  | _, _, .cons h r => .cons (RepV.monoV t e h) (RepVs.monoV t e r)
end
theorem RepV.mono (t : TX H H') (e : Ext ρ ρ') {u : U} {v : V} (h : RepV K H ρ u v) : RepV K H' ρ' u v := h.monoV t.tv e
theorem RepVs.mono (t : TX H H') (e : Ext ρ ρ') {us : List U} {vs : List V} (h : RepVs K H ρ us vs) : RepVs K H' ρ' us vs := h.monoV t.tv e
theorem RepVs.length : ∀ {us : List U} {vs : List V}, RepVs K H ρ us vs → us.length = vs.length
  | _, _, .nil => rfl
  | _, _, .cons _ r => congrArg (· + 1) (RepVs.length r)
theorem RepVs.get : ∀ {us : List U} {vs : List V} {i : Nat} {u : U}, RepVs K H ρ us vs → us[i]? = some u → ∃ v, vs[i]? = some v ∧ RepV K H ρ u v
  | _, _, _, _, .nil, e => by simp at e
  | _, _, 0, _, .cons h _, e => by simp at e; subst e; exact ⟨_, rfl, h⟩
  | _, _, i + 1, u, .cons _ r, e => by
    obtain ⟨v, h1, h2⟩ := RepVs.get (i := i) (u := u) r (by simpa using e)
    exact ⟨v, by simpa using h1, h2⟩
theorem RepVs.append : ∀ {us ws : List U} {vs xs : List V}, RepVs K H ρ us vs → RepVs K H ρ ws xs → RepVs K H ρ (us ++ ws) (vs ++ xs)
  | _, _, _, _, .nil, s => s
  | _, _, _, _, .cons h r, s => .cons h (RepVs.append r s)
theorem RepVs.set {u : U} {v : V} (h : RepV K H ρ u v) : ∀ {us : List U} {vs : List V} (i : Nat), RepVs K H ρ us vs → RepVs K H ρ (us.set i u) (vs.set i v)
  | _, _, _, .nil => .nil
  | _, _, 0, .cons _ r => .cons h r
  | _, _, i + 1, .cons q r => .cons q (RepVs.set h i r)
theorem RepVs.take : ∀ {us : List U} {vs : List V} (n : Nat), RepVs K H ρ us vs → RepVs K H ρ (us.take n) (vs.take n)
  | _, _, 0, _ => .nil
  | _, _, _ + 1, .nil => .nil
  | _, _, n + 1, .cons h r => .cons h (RepVs.take n r)
theorem RepVs.drop : ∀ {us : List U} {vs : List V} (n : Nat), RepVs K H ρ us vs → RepVs K H ρ (us.drop n) (vs.drop n)
  | _, _, 0, r => r
  | _, _, _ + 1, .nil => .nil
  | _, _, n + 1, .cons _ r => RepVs.drop n r
theorem RepVs.one {u : U} {v : V} (h : RepV K H ρ u v) : RepVs K H ρ [u] [v] := .cons h .nil
theorem RepVs.reverse {us : List U} {vs : List V} (r : RepVs K H ρ us vs) : RepVs K H ρ us.reverse vs.reverse := by
  induction us generalizing vs with
  | nil => cases r; exact .nil
  | cons u us ih =>
    cases r with
    | cons h r => rw [List.reverse_cons, List.reverse_cons]; exact (ih r).append (.one h)
theorem RepVs.ints : ∀ {is : List Int} {vs : List V}, RepVs K H ρ (is.map U.int) vs → vs = is.map V.int
  | [], _, r => by cases r; rfl
  | i :: is, _, r => by
    cases r with
    | cons h r => cases h; rw [RepVs.ints r]; rfl
theorem RepVs.ofInts : ∀ (is : List Int), RepVs K H ρ (is.map U.int) (is.map V.int)
  | [] => .nil
  | _ :: is => .cons .int (RepVs.ofInts is)
theorem RepVs.strs : ∀ {is : List Str} {vs : List V}, RepVs K H ρ (is.map U.str) vs → vs = is.map V.str
  | [], _, r => by cases r; rfl
  | i :: is, _, r => by
    cases r with
    | cons h r => cases h; rw [RepVs.strs r]; rfl
theorem RepVs.ofStrs : ∀ (is : List Str), (∀ x ∈ is, PyData.strOk x = true) → RepVs K H ρ (is.map U.str) (is.map V.str)
  | [], _ => .nil
  | x :: is, h => .cons (.str (h x (by simp))) (RepVs.ofStrs is fun y hy => h y (by simp [hy]))
theorem RepVs.strsOk : ∀ {is : List Str} {vs : List V}, RepVs K H ρ (is.map U.str) vs → ∀ x ∈ is, PyData.strOk x = true
  | [], _, _ => by simp
  | i :: is, _, r => by
    cases r with
    | cons h r =>
      cases h with
      | str h =>
        intro x hx
        rcases List.mem_cons.mp hx with e | e
        · exact e ▸ h
        · exact RepVs.strsOk r x e
theorem RepVs.bls : ∀ {is : List Bool} {vs : List V}, RepVs K H ρ (is.map U.bl) vs → vs = is.map V.bl
  | [], _, r => by cases r; rfl
  | i :: is, _, r => by
    cases r with
    | cons h r => cases h; rw [RepVs.bls r]; rfl
end

theorem nodup_inj {α : Type} {l : List α} (h : l.Nodup) {i j : Nat} (hi : i < l.length) (hj : j < l.length) (e : l[i] = l[j]) : i = j := by
  have p := List.pairwise_iff_getElem.mp h
  rcases Nat.lt_trichotomy i j with q | q | q
  · exact absurd e (p i j hi hj q)
  · exact q
  · exact absurd e.symm (p j i hj hi q)
/-- a dict at a whose keys are tuples of ints: each key, where it stands, the value -/
def tiE (x : List Int × Addr × Value) : DictEntry := ⟨reduceHash (Builtin.Tuple.tupleHashOf (x.1.map hashInt)), .ref x.2.1, x.2.2⟩
def TiRaw (a : Addr) (xs : List (List Int × Addr × V)) (h : Heap) : Prop := (a == sysModules) = false ∧ xs.length ≤ sizeLine ∧ (xs.map (·.1)).Nodup ∧ ∃ ys : List (List Int × Addr × Value),
  Paired (fun p q => p.1 = q.1 ∧ p.2.1 = q.2.1 ∧ RelV p.2.2 q.2.2) xs ys ∧ ∃ o es ep, h.get? a = some o ∧ o.ExactDict ∧ o.data = .dict es ep ∧ es.toList = ys.map tiE
def TiD (a : Addr) (xs : List (List Int × Addr × V)) : HO := .ext (TiRaw a xs)
theorem TiRaw.ok {P : Program} {w : World} {H : Hp} {h : Heap} {a : Addr} {xs : List (List Int × Addr × V)} (r : TiRaw a xs h) : ObjOk P w H h a (TiD a xs) := by
  refine ⟨r, ?_, fun h1 h2 r1 k => ?_⟩
  · obtain ⟨_, _, _, ys, _, o, es, ep, e, _⟩ := r
    exact ⟨o, e⟩
  · obtain ⟨q, z, n, ys, p, o, es, ep, e, c⟩ := r1
    exact ⟨q, z, n, ys, p, o, es, ep, k o e, c⟩
/-! ### how the memory lies -/
def RepC (K : PySem.W.Frag) (H : Hp) (ρ : List Addr) : Cell → Addr → Prop
  | .lst us, a => ∃ vs, H a = some (.lst vs) ∧ RepVs K H ρ us vs
  | .dct kus, a => ∃ kvs, H a = some (.dK kvs) ∧ kvs.map (·.1) = kus.map (·.1) ∧ RepVs K H ρ (kus.map (·.2)) (kvs.map (·.2))
  | .fdc kus, a => ∃ o kvs, H a = some (.frz o (.dK kvs)) ∧ kvs.map (·.1) = kus.map (·.1) ∧ RepVs K H ρ (kus.map (·.2)) (kvs.map (·.2))
  | .dtt kus, a => ∃ xs, H a = some (TiD a xs) ∧ (∀ p ∈ xs, SqT K H p.2.1 (p.1.map V.int)) ∧ xs.map (·.1) = kus.map (·.1) ∧ RepVs K H ρ (kus.map (·.2)) (xs.map (·.2.2))
  | .fdt kus, a => ∃ o xs, H a = some (.frz o (TiD a xs)) ∧ (∀ p ∈ xs, SqT K H p.2.1 (p.1.map V.int)) ∧ xs.map (·.1) = kus.map (·.1) ∧ RepVs K H ρ (kus.map (·.2)) (xs.map (·.2.2))
  | .obj c fs, a => ∃ dx fvs, H a = some (.ins (He.ga K c) dx fvs) ∧ fvs.map (·.1) = fs.map (·.1) ∧ RepVs K H ρ (fs.map (·.2)) (fvs.map (·.2))
structure RepM (K : PySem.W.Frag) (H : Hp) (ρ : List Addr) (μ : Mem) : Prop where
  len : ρ.length = μ.length
  nd : ρ.Nodup
  cell : ∀ (i : Nat) (c : Cell), μ[i]? = some c → ∃ a, ρ[i]? = some a ∧ RepC K H ρ c a
section
variable {K : PySem.W.Frag} {H H' : Hp} {ρ ρ' : List Addr} {μ : Mem}
def Cell.soft : Cell → Bool
  | .fdc _ => false
  | .fdt _ => false
  | _ => true
theorem RepC.there {c : Cell} {a : Addr} (h : RepC K H ρ c a) : ∃ o, H a = some o ∧ (c.soft = true → Sft o) := by
  cases c with
  | lst us => obtain ⟨vs, e, _⟩ := h; exact ⟨_, e, by simp [Sft]⟩
  | dct us => obtain ⟨vs, e, _⟩ := h; exact ⟨_, e, by simp [Sft]⟩
  | fdc us => obtain ⟨o, vs, e, _⟩ := h; exact ⟨_, e, fun h => nomatch h⟩
  | dtt us => obtain ⟨vs, e, _⟩ := h; exact ⟨_, e, by simp [Sft, TiD]⟩
  | fdt us => obtain ⟨o, vs, e, _⟩ := h; exact ⟨_, e, fun h => nomatch h⟩
  | obj c us => obtain ⟨o, vs, e, _⟩ := h; exact ⟨_, e, by simp [Sft]⟩
theorem RepC.tx {c : Cell} {a : Addr} {o' : HO} (h : RepC K H ρ c a) (hs : c.soft = true) : TX H (upd H a o') := by
  obtain ⟨o, e, h1⟩ := h.there
  exact TX.put fun o2 r => by rw [e] at r; cases r; exact h1 hs
theorem RepC.monoV {c : Cell} {a : Addr} (t : TV H H') (x : Ext ρ ρ') (e : H' a = H a) (h : RepC K H ρ c a) : RepC K H' ρ' c a := by
  cases c with
  | lst us => obtain ⟨vs, q, r⟩ := h; exact ⟨vs, e.trans q, r.monoV t x⟩
  | dct us => obtain ⟨vs, q, w, r⟩ := h; exact ⟨vs, e.trans q, w, r.monoV t x⟩
  | fdc us => obtain ⟨o, vs, q, w, r⟩ := h; exact ⟨o, vs, e.trans q, w, r.monoV t x⟩
  | dtt us => obtain ⟨vs, q, z, w, r⟩ := h; exact ⟨vs, e.trans q, fun p hp => t.seq (z p hp), w, r.monoV t x⟩
  | fdt us => obtain ⟨o, vs, q, z, w, r⟩ := h; exact ⟨o, vs, e.trans q, fun p hp => t.seq (z p hp), w, r.monoV t x⟩
  | obj c us => obtain ⟨o, vs, q, w, r⟩ := h; exact ⟨o, vs, e.trans q, w, r.monoV t x⟩
theorem RepC.mono {c : Cell} {a : Addr} (t : TX H H') (x : Ext ρ ρ') (e : H' a = H a) (h : RepC K H ρ c a) : RepC K H' ρ' c a := h.monoV t.tv x e
theorem RepM.at (m : RepM K H ρ μ) {i : Nat} {a : Addr} (e : ρ[i]? = some a) : ∃ c, μ[i]? = some c ∧ RepC K H ρ c a := by
  have hi : i < ρ.length := (List.getElem?_eq_some_iff.mp e).1
  have hj : i < μ.length := m.len ▸ hi
  obtain ⟨a', e', r⟩ := m.cell i _ (List.getElem?_eq_getElem hj)
  rw [e] at e'; cases e'
  exact ⟨_, List.getElem?_eq_getElem hj, r⟩
theorem RepM.get (m : RepM K H ρ μ) {i : Nat} {a : Addr} {c : Cell} (e : ρ[i]? = some a) (h : μ[i]? = some c) : RepC K H ρ c a := by
  obtain ⟨a', e', r⟩ := m.cell i c h
  rw [e] at e'; cases e'
  exact r
theorem RepM.lst (m : RepM K H ρ μ) {i : Nat} {a : Addr} {us : List U} (e : ρ[i]? = some a) (h : μ[i]? = some (.lst us)) : ∃ vs, H a = some (.lst vs) ∧ RepVs K H ρ us vs := m.get e h
theorem RepM.here (m : RepM K H ρ μ) {a : Addr} (h : a ∈ ρ) : H a ≠ none := by
  obtain ⟨i, hi, e⟩ := List.getElem_of_mem h
  obtain ⟨c, _, r⟩ := m.at (i := i) (a := a) (by rw [List.getElem?_eq_getElem hi, e])
  obtain ⟨o, q, _⟩ := r.there
  rw [q]; simp
theorem RepM.notin (m : RepM K H ρ μ) {p : Addr} (h : H p = none) : p ∉ ρ := fun q => m.here q h
/-- the heap has more, the memory is the same -/
theorem RepM.keep (m : RepM K H ρ μ) (t : TX H H') (k : ∀ a ∈ ρ, H' a = H a) : RepM K H' ρ μ := ⟨m.len, m.nd, fun i c h => by
  obtain ⟨a, e, r⟩ := m.cell i c h
  exact ⟨a, e, r.mono t (Ext.refl _) (k a (List.mem_of_getElem? e))⟩⟩
theorem RepM.temp (m : RepM K H ρ μ) {p : Addr} {o : HO} (h : H p = none) : RepM K (upd H p o) ρ μ := m.keep (TX.new h) fun a ha => upd_ne fun e => m.notin h (e ▸ ha)
/-- a new cell -/
theorem RepM.new (m : RepM K H ρ μ) {p : Addr} {o : HO} {c : Cell} (h : H p = none) (r : RepC K (upd H p o) (ρ ++ [p]) c p) : RepM K (upd H p o) (ρ ++ [p]) (μ ++ [c]) := by
  refine ⟨by simp [m.len], ?_, fun i d e => ?_⟩
  · rw [List.nodup_append]
    exact ⟨m.nd, by simp, fun a ha b hb => by simp at hb; subst hb; exact fun e => m.notin h (e ▸ ha)⟩
  · by_cases hi : i < μ.length
    · rw [List.getElem?_append_left hi] at e
      obtain ⟨a, e1, r1⟩ := m.cell i d e
      exact ⟨a, (Ext.snoc ρ p).get e1, r1.mono (TX.new h) (Ext.snoc ρ p) (upd_ne fun q => m.notin h (q ▸ List.mem_of_getElem? e1))⟩
    · have hi2 : i = μ.length := by
        have := (List.getElem?_eq_some_iff.mp e).1
        simp at this
        omega
      subst hi2
      rw [List.getElem?_append_right (Nat.le_refl _)] at e
      simp at e
      subst e
      exact ⟨p, by rw [← m.len, List.getElem?_append_right (Nat.le_refl _)]; simp, r⟩
/-- a cell is changed -/
theorem RepM.putV (m : RepM K H ρ μ) {i : Nat} {a : Addr} {o : HO} {c : Cell} (t : TV H (upd H a o)) (e : ρ[i]? = some a) (r : RepC K (upd H a o) ρ c a) : RepM K (upd H a o) ρ (μ.set i c) := by
  obtain ⟨c0, e0, r0⟩ := m.at e
  refine ⟨by simp [m.len], m.nd, fun j d h => ?_⟩
  by_cases hj : i = j
  · subst hj
    rw [List.getElem?_set_self (List.getElem?_eq_some_iff.mp e0).1] at h
    cases h
    exact ⟨a, e, r⟩
  · rw [List.getElem?_set_ne hj] at h
    obtain ⟨b, e1, r1⟩ := m.cell j d h
    refine ⟨b, e1, r1.monoV t (Ext.refl _) (upd_ne fun q => hj ?_)⟩
    subst q
    obtain ⟨h1, h2⟩ := List.getElem?_eq_some_iff.mp e
    obtain ⟨h3, h4⟩ := List.getElem?_eq_some_iff.mp e1
    exact nodup_inj m.nd h1 h3 (h2.trans h4.symm)
end

/-! ### how the slots lie -/
structure RepS (K : PySem.W.Frag) (H : Hp) (ρ : List Addr) (s : Slots) (σ : L2.St) : Prop where
  len : s.length = σ.length
  get : ∀ (i : Nat) (u : U), s[i]? = some (some u) → ∃ v, σ[i]? = some (some v) ∧ RepV K H ρ u v
theorem RepS.mono {K : PySem.W.Frag} {H H' : Hp} {ρ ρ' : List Addr} {s : Slots} {σ : L2.St} (t : TX H H') (x : Ext ρ ρ') (h : RepS K H ρ s σ) : RepS K H' ρ' s σ :=
  ⟨h.len, fun i u e => by obtain ⟨v, q, r⟩ := h.get i u e; exact ⟨v, q, r.mono t x⟩⟩
theorem RepS.set {K : PySem.W.Frag} {H : Hp} {ρ : List Addr} {s : Slots} {σ : L2.St} {i : Nat} {u : U} {v : V} (h : RepS K H ρ s σ) (r : RepV K H ρ u v) : RepS K H ρ (s.set i (some u)) (σ.set i (some v)) := by
  refine ⟨by simp [h.len], fun j w e => ?_⟩
  by_cases hj : i = j
  · subst hj
    have hl : i < s.length := by
      have := (List.getElem?_eq_some_iff.mp e).1
      simpa using this
    rw [List.getElem?_set_self hl] at e
    cases e
    exact ⟨v, List.getElem?_set_self (h.len ▸ hl), r⟩
  · rw [List.getElem?_set_ne hj] at e
    obtain ⟨x, q, r'⟩ := h.get j w e
    exact ⟨x, by rw [List.getElem?_set_ne hj]; exact q, r'⟩

/-! ### a step of the heap -/
structure Stp (K : PySem.W.Frag) (ρ : List Addr) (H : Hp) (ρ' : List Addr) (H' : Hp) (μ' : Mem) : Prop where
  ext : Ext ρ ρ'
  tx : TX H H'
  mem : RepM K H' ρ' μ'
section
variable {K : PySem.W.Frag} {H H1 H2 : Hp} {ρ ρ1 ρ2 : List Addr} {μ μ1 μ2 : Mem}
theorem Stp.refl (m : RepM K H ρ μ) : Stp K ρ H ρ H μ := ⟨Ext.refl _, TX.refl _, m⟩
theorem Stp.trans (a : Stp K ρ H ρ1 H1 μ1) (b : Stp K ρ1 H1 ρ2 H2 μ2) : Stp K ρ H ρ2 H2 μ2 := ⟨a.ext.trans b.ext, a.tx.trans b.tx, b.mem⟩
theorem Stp.temp (m : RepM K H ρ μ) {p : Addr} {o : HO} (h : H p = none) : Stp K ρ H ρ (upd H p o) μ := ⟨Ext.refl _, TX.new h, m.temp h⟩
theorem Stp.new (m : RepM K H ρ μ) {p : Addr} {o : HO} {c : Cell} (h : H p = none) (r : RepC K (upd H p o) (ρ ++ [p]) c p) : Stp K ρ H (ρ ++ [p]) (upd H p o) (μ ++ [c]) := ⟨Ext.snoc ρ p, TX.new h, m.new h r⟩
theorem RepM.put (m : RepM K H ρ μ) {i : Nat} {a : Addr} {o : HO} {c c0 : Cell} (e : ρ[i]? = some a) (h0 : μ[i]? = some c0) (hs : c0.soft = true) (r : RepC K (upd H a o) ρ c a) : RepM K (upd H a o) ρ (μ.set i c) :=
  m.putV ((m.get e h0).tx hs).tv e r
theorem Stp.put (m : RepM K H ρ μ) {i : Nat} {a : Addr} {o : HO} {c c0 : Cell} (e : ρ[i]? = some a) (h0 : μ[i]? = some c0) (hs : c0.soft = true) (r : RepC K (upd H a o) ρ c a) : Stp K ρ H ρ (upd H a o) (μ.set i c) :=
  ⟨Ext.refl _, (m.get e h0).tx hs, m.put e h0 hs r⟩
theorem Stp.v (t : Stp K ρ H ρ1 H1 μ1) {u : U} {v : V} (h : RepV K H ρ u v) : RepV K H1 ρ1 u v := h.mono t.tx t.ext
theorem Stp.vs (t : Stp K ρ H ρ1 H1 μ1) {u : List U} {v : List V} (h : RepVs K H ρ u v) : RepVs K H1 ρ1 u v := h.mono t.tx t.ext
theorem Stp.s (t : Stp K ρ H ρ1 H1 μ1) {u : Slots} {v : L2.St} (h : RepS K H ρ u v) : RepS K H1 ρ1 u v := h.mono t.tx t.ext
end

/-! ### what is wanted behind -/
abbrev RelT (α β : Type) := PySem.W.Frag → Hp → List Addr → α → β → Prop
def relV : RelT U V := RepV
def relVs : RelT (List U) (List V) := RepVs
def relB : RelT Bool Bool := fun _ _ _ a b => a = b
def relO : RelT (Option Int) (Option Int) := fun _ _ _ a b => a = b
def Post {α β : Type} (X : Cx) (W : WX) (σ : L2.St) (rel : RelT α β) (ρ : List Addr) (H : Hp) (r : Res α) (Q : β → Hp → Prop) : Prop := match r with
  | .ok u μ' => ∀ v H' ρ', Stp X.K ρ H ρ' H' μ' → rel X.K H' ρ' u v → Q v H'
  | .ex c μ' => ∀ cls H' ρ', Stp X.K ρ H ρ' H' μ' → X.mg c = some cls → W cls none σ H'
  | .bad => False
theorem Post.bind {α β γ δ : Type} {X : Cx} {W : WX} {σ : L2.St} {rel1 : RelT α β} {rel2 : RelT γ δ} {ρ : List Addr} {H : Hp} {r : Res α} {k : α → Mem → Res γ} {Q : δ → Hp → Prop} {Q1 : β → Hp → Prop}
    (h : Post X W σ rel2 ρ H (r.bind k) Q) (hk : ∀ a μ1 x H1 ρ1, Stp X.K ρ H ρ1 H1 μ1 → rel1 X.K H1 ρ1 a x → Post X W σ rel2 ρ1 H1 (k a μ1) Q → Q1 x H1) : Post X W σ rel1 ρ H r Q1 := by
  cases r with
  | ok a m =>
    intro v H' ρ' t q
    refine hk a m v H' ρ' t q ?_
    have h' : Post X W σ rel2 ρ H (k a m) Q := h
    generalize k a m = z at h'
    cases z with
    | ok b m2 => exact fun v2 H2 ρ2 t2 q2 => h' v2 H2 ρ2 (t.trans t2) q2
    | ex c m2 => exact fun cls H2 ρ2 t2 e => h' cls H2 ρ2 (t.trans t2) e
    | bad => exact h'
  | ex c m => exact h
  | bad => exact h
theorem Post.ok {α β : Type} {X : Cx} {W : WX} {σ : L2.St} {rel : RelT α β} {ρ ρ' : List Addr} {H H' : Hp} {u : α} {v : β} {μ' : Mem} {Q : β → Hp → Prop} (h : Post X W σ rel ρ H (.ok u μ') Q) (t : Stp X.K ρ H ρ' H' μ') (r : rel X.K H' ρ' u v) : Q v H' := h v H' ρ' t r

/-! ### an expression, a test, arguments -/
def WE (X : Cx) (e : Expr) : TE := fun σ H Q => ∃ t, PE X e t ∧ t σ H Q
theorem pe_w {X : Cx} {e : Expr} : PE X e (WE X e) := ⟨fun pins s σ H Q I ⟨_, h, q⟩ => h.run pins s σ H Q I q⟩
def WT (X : Cx) (e : Expr) : TT := fun σ H Q => ∃ t, PT X e t ∧ t σ H Q
theorem pt_w {X : Cx} {e : Expr} : PT X e (WT X e) := ⟨fun pins s σ H Q I ⟨_, h, q⟩ => h.run pins s σ H Q I q⟩
def WA (X : Cx) (es : List Expr) : TA := fun σ H Q => ∃ t, PA X es t ∧ t σ H Q
theorem pa_w {X : Cx} {es : List Expr} : PA X es (WA X es) := ⟨fun pos pins s σ H Q I ⟨_, h, q⟩ => h.run pos pins s σ H Q I q⟩
def OpW (X : Cx) (f : Value → Value → Sem Value) : R2 := fun x y H Q => ∃ r, OpR X f r ∧ r x y H Q
theorem op_w {X : Cx} {f : Value → Value → Sem Value} : OpR X f (OpW X f) := fun pins s σ H x y v u Q I rx ry ⟨_, h, q⟩ => h pins s σ H x y v u Q I rx ry q
def IxW (X : Cx) : R2 := fun x y H Q => ∃ r, IxR X r ∧ r x y H Q
theorem ix_w {X : Cx} : IxR X (IxW X) := fun value slice pins s σ H x y v u Q I rx ry ⟨_, h, q⟩ hs => h value slice pins s σ H x y v u Q I rx ry q hs

def CE (X : Cx) (W : WX) (e : Expr) (m : FE) : Prop := ∀ ρ μ s σ H Q, RepS X.K H ρ s σ → RepM X.K H ρ μ → Post X W σ relV ρ H (m s μ) Q → WE X e σ H Q
def CT (X : Cx) (W : WX) (e : Expr) (m : FT) : Prop := ∀ ρ μ s σ H Q, RepS X.K H ρ s σ → RepM X.K H ρ μ → Post X W σ relB ρ H (m s μ) Q → WT X e σ H Q
def CA (X : Cx) (W : WX) (es : List Expr) (m : FA) : Prop := ∀ ρ μ s σ H Q, RepS X.K H ρ s σ → RepM X.K H ρ μ → Post X W σ relVs ρ H (m s μ) Q → WA X es σ H Q

/-- what holds of a context: nothing is handled, k calls have room, W takes what is raised -/
structure Good (X : Cx) (W : WX) (k : Nat) : Prop where
  calm : X.calm = true
  room : Room k X.A
  tk : Takes X W
  po : PassesOwn (model X.prog X.w) X.A X.env X.xe

section
variable {X : Cx} {W : WX} {k : Nat}
/-! names and constants -/
def fVar (i : Nat) : FE := fun s μ => match s[i]? with
  | some (some u) => .ok u μ
  | _ => .bad
theorem ce_var (i : Nat) {x : Str} {pos : Pos} (hN : X.N[i]? = some x := by rfl) (hv : Vis X.env.scope x := by first | exact Or.inl rfl | exact Or.inr (Or.inl rfl) | exact Or.inr (Or.inr rfl)) (hd : (x == ("__debug__" : Str)) = false := by decide)
    (hcd : (x == ("__classdict__" : Str)) = false := by decide) : CE X W (.Name x pos) (fVar i) := by
  intro ρ μ s σ H Q hs hm h
  refine ⟨tVar i, pe_var hN hv hd hcd, ?_⟩
  unfold fVar at h
  cases e : s[i]? with
  | none => rw [e] at h; exact h.elim
  | some o =>
    cases o with
    | none => rw [e] at h; exact h.elim
    | some u =>
      rw [e] at h
      obtain ⟨v, q, r⟩ := hs.get i u e
      exact ⟨v, q, h.ok (Stp.refl hm) r⟩
def fC (u : U) : FE := fun _ μ => .ok u μ
theorem ce_int {i : Int} {j : Nat} {pos : Pos} : CE X W (.Constant (.int i) j pos) (fC (.int i)) := fun ρ μ s σ H Q hs hm h => ⟨_, pe_int, h.ok (Stp.refl hm) .int⟩
theorem ce_bl {b : Bool} {j : Nat} {pos : Pos} : CE X W (.Constant (.bool b) j pos) (fC (.bl b)) := fun ρ μ s σ H Q hs hm h => ⟨_, pe_bl, h.ok (Stp.refl hm) .bl⟩
theorem ce_non {j : Nat} {pos : Pos} : CE X W (.Constant .none j pos) (fC .non) := fun ρ μ s σ H Q hs hm h => ⟨_, pe_non, h.ok (Stp.refl hm) .non⟩
theorem ce_str {x : Str} {j : Nat} {pos : Pos} (hx : PyData.strOk x = true := by decide +kernel) : CE X W (.Constant (.str x) j pos) (fC (.str x)) := fun ρ μ s σ H Q hs hm h => ⟨_, pe_str, h.ok (Stp.refl hm) (.str hx)⟩
/-- a constant of the module -/
theorem ce_glob {x : Str} {u : U} {v : V} {z : Value} {pos : Pos} (hg : Gl X x) (hm : X.mg x = some z) (r : RelV v z) (q : ∀ H ρ, RepV X.K H ρ u v) (hd : (x == ("__debug__" : Str)) = false := by decide) : CE X W (.Name x pos) (fC u) :=
  fun ρ μ s σ H Q hs hm' h => ⟨_, pe_glob hg hm r hd, h.ok (Stp.refl hm') (q H ρ)⟩

/-! two-place operations -/
def fOp (f : U → U → Mem → Res U) (a b : FE) : FE := fun s μ => (a s μ).bind fun u μ1 => (b s μ1).bind fun w μ2 => f u w μ2
def OpS (X : Cx) (W : WX) (g : Value → Value → Sem Value) (f : U → U → Mem → Res U) : Prop := ∀ ρ μ σ H u w x y Q, RepM X.K H ρ μ → RepV X.K H ρ u x → RepV X.K H ρ w y → Post X W σ relV ρ H (f u w μ) Q → OpW X g x y H Q
theorem ce_op {op : Operator} {a b : Expr} {f : U → U → Mem → Res U} {ma mb : FE} {pos : Pos} (ho : OpS X W (binaryOp op) f) (ha : CE X W a ma) (hb : CE X W b mb) : CE X W (.BinOp a op b pos) (fOp f ma mb) := by
  intro ρ μ s σ H Q hs hm h
  refine ⟨_, pe_op op_w pe_w pe_w, ?_⟩
  refine ha ρ μ s σ H _ hs hm (h.bind fun u μ1 x H1 ρ1 t1 r1 h1 => ?_)
  refine hb ρ1 μ1 s σ H1 _ (t1.s hs) t1.mem (h1.bind fun w μ2 y H2 ρ2 t2 r2 h2 => ?_)
  exact ho ρ2 μ2 σ H2 u w x y Q t2.mem (t2.v r1) r2 h2
theorem ce_cmp {op : CmpOp} {a b : Expr} {f : U → U → Mem → Res U} {ma mb : FE} {pos : Pos} (ho : OpS X W (compareOp op) f) (ha : CE X W a ma) (hb : CE X W b mb) (hm0 : behindInMarks op b = false) : CE X W (.Compare a [op] [b] pos) (fOp f ma mb) := by
  intro ρ μ s σ H Q hs hm h
  refine ⟨_, pe_cmpR op_w pe_w pe_w hm0, ?_⟩
  refine ha ρ μ s σ H _ hs hm (h.bind fun u μ1 x H1 ρ1 t1 r1 h1 => ?_)
  refine hb ρ1 μ1 s σ H1 _ (t1.s hs) t1.mem (h1.bind fun w μ2 y H2 ρ2 t2 r2 h2 => ?_)
  exact ho ρ2 μ2 σ H2 u w x y Q t2.mem (t2.v r1) r2 h2
end
end Dg
/-! Dg2: operators, comparisons, tests, displays, calls of built-ins by value. -/
namespace Dg
open PySem PySem.Spec PyProof.Rows L2

def lim : Nat := 16777216
theorem lim_le {n : Nat} (h : n ≤ lim) : n ≤ sizeLine := h
theorem lim_lt {n : Nat} (h : n < lim) : n < sizeLine := h

/-! ### data of a value (for ==) -/
mutual
def toD (g : Nat → Option PyData) : U → Option PyData
  | .non => some .none
  | .bl b => some (.bool b)
  | .int i => some (.int i)
  | .str s => some (.str s)
  | .tup us => (toDs g us).map .tuple
  | .ref i => g i
  | .frl us => (toDs g us).map .list
def toDs (g : Nat → Option PyData) : List U → Option (List PyData)
  | [] => some []
  | u :: us => match toD g u, toDs g us with
    | some d, some ds => some (d :: ds)
    | _, _ => none
end
def refD (μ : Mem) : Nat → Nat → Option PyData
  | 0, _ => none
  | n + 1, i => match μ[i]? with
    | some (.lst us) => (toDs (refD μ n) us).map .list
    | _ => none
def datU (μ : Mem) (u : U) : Option PyData := toD (refD μ 6) u

def DOk (K : PySem.W.Frag) (H : Hp) (ρ : List Addr) (g : Nat → Option PyData) : Prop := ∀ i a d, ρ[i]? = some a → g i = some d → Dp K H (.ref a) d ∧ d.canLay0 = true
section
variable {K : PySem.W.Frag} {H : Hp} {ρ : List Addr} {μ : Mem} {g : Nat → Option PyData}
mutual
theorem toD_ok (hg : DOk K H ρ g) : ∀ (u : U) (v : V) (d : PyData), RepV K H ρ u v → toD g u = some d → Dp K H v d ∧ d.canLay0 = true
  | .non, _, _, h, e => by
    cases h
    simp only [toD, Option.some.injEq] at e
    subst e
    exact ⟨.non, rfl⟩
  | .bl b, _, _, h, e => by
    cases h
    simp only [toD, Option.some.injEq] at e
    subst e
    exact ⟨.bl _, rfl⟩
  | .int i, _, _, h, e => by
    cases h
    simp only [toD, Option.some.injEq] at e
    subst e
    exact ⟨.int _, rfl⟩
  | .str s, _, _, h, e => by
    cases h with
    | str hs =>
      simp only [toD, Option.some.injEq] at e
      subst e
      exact ⟨.str _, by simpa [PyData.canLay0] using hs⟩
  | .tup us, _, _, h, e => by
    cases h with
    | tup hs hr =>
      simp only [toD, Option.map_eq_some_iff] at e
      obtain ⟨ds, e1, rfl⟩ := e
      obtain ⟨h1, h2⟩ := toDs_ok hg us _ ds hr e1
      exact ⟨.tup hs h1, by simpa [PyData.canLay0] using h2⟩
  | .ref i, _, _, h, e => by
    cases h with
    | ref hr =>
      simp only [toD] at e
      exact hg i _ _ hr e
  | .frl us, _, _, h, e => by
    cases h with
    | frl hs hr =>
      simp only [toD, Option.map_eq_some_iff] at e
      obtain ⟨ds, e1, rfl⟩ := e
      obtain ⟨h1, h2⟩ := toDs_ok hg us _ ds hr e1
      exact ⟨.lst hs.sq h1, by simpa [PyData.canLay0] using h2⟩
theorem toDs_ok (hg : DOk K H ρ g) : ∀ (us : List U) (vs : List V) (ds : List PyData), RepVs K H ρ us vs → toDs g us = some ds → DpAll K H vs ds ∧ PyData.canLayAll0 ds = true
  | [], _, _, h, e => by
    cases h
    simp only [toDs, Option.some.injEq] at e
    subst e
    exact ⟨.nil, rfl⟩
  | u :: us, _, _, h, e => by
    cases h with
    | cons h1 h2 =>
      simp only [toDs] at e
      cases e1 : toD g u with
      | none => rw [e1] at e; cases e
      | some d =>
        cases e2 : toDs g us with
        | none => rw [e1, e2] at e; cases e
        | some ds =>
          rw [e1, e2] at e
          cases e
          obtain ⟨a1, a2⟩ := toD_ok hg u _ d h1 e1
          obtain ⟨b1, b2⟩ := toDs_ok hg us _ ds h2 e2
          exact ⟨.cons a1 b1, by simp [PyData.canLayAll0, a2, b2]⟩
end
theorem refD_ok (m : RepM K H ρ μ) : ∀ n, DOk K H ρ (refD μ n)
  | 0, _, _, _, _, e => by simp [refD] at e
  | n + 1, i, a, d, hi, e => by
    obtain ⟨c, hc, r⟩ := m.at hi
    simp only [refD, hc] at e
    cases c with
    | lst us =>
      obtain ⟨vs, q, rr⟩ := r
      simp only [Option.map_eq_some_iff] at e
      obtain ⟨ds, e1, rfl⟩ := e
      obtain ⟨h1, h2⟩ := toDs_ok (refD_ok m n) us _ ds rr e1
      exact ⟨.lst (.inl (.inl q)) h1, by simpa [PyData.canLay0] using h2⟩
    | _ => cases e
theorem datU_ok (m : RepM K H ρ μ) {u : U} {v : V} {d : PyData} (r : RepV K H ρ u v) (e : datU μ u = some d) : Dp K H v d ∧ d.canLay0 = true := toD_ok (refD_ok m 6) u v d r e
end
def eqLim : Nat := 800
def eqU (u w : U) (μ : Mem) : Option Bool := match datU μ u, datU μ w with
  | some d, some e => if min d.depth e.depth ≤ eqLim then some (PyData.eqv d e) else none
  | _, _ => none
def resB (o : Option Bool) (μ : Mem) : Res U := match o with
  | some b => .ok (.bl b) μ
  | none => .bad
def uEq (u w : U) (μ : Mem) : Res U := resB (eqU u w μ) μ
def uNe (u w : U) (μ : Mem) : Res U := resB ((eqU u w μ).map not) μ

section
variable {X : Cx} {W : WX} {k : Nat}
def rEqL (K : PySem.W.Frag) : R2 := fun x y H Q => ∃ d e, Dp K H x d ∧ Dp K H y e ∧ d.canLay0 = true ∧ e.canLay0 = true ∧ min d.depth e.depth ≤ eqLim ∧ Q (.bl (PyData.eqv d e)) H
def rNeL (K : PySem.W.Frag) : R2 := fun x y H Q => ∃ d e, Dp K H x d ∧ Dp K H y e ∧ d.canLay0 = true ∧ e.canLay0 = true ∧ min d.depth e.depth ≤ eqLim ∧ Q (.bl (!PyData.eqv d e)) H
theorem op_eqL (hu : X.A.units + 800 < cLine) : OpR X (compareOp .Eq) (rEqL X.K) := by
  intro pins s σ H x y v u Q I rx ry h
  obtain ⟨d, e, hd, he, sd, se, hl, q⟩ := h
  obtain ⟨as, r1⟩ := Dp.reads I d x v hd rx
  obtain ⟨bs, r2⟩ := Dp.reads I e y u he ry
  exact SeqAt.compareEq_reads r1 r2 sd se (Nat.lt_of_le_of_lt (Nat.add_le_add_left hl _) hu) ⟨.bl _, H, I, rfl, q⟩
theorem op_neL (hu : X.A.units + 800 < cLine) : OpR X (compareOp .NotEq) (rNeL X.K) := by
  intro pins s σ H x y v u Q I rx ry h
  obtain ⟨d, e, hd, he, sd, se, hl, q⟩ := h
  obtain ⟨as, r1⟩ := Dp.reads I d x v hd rx
  obtain ⟨bs, r2⟩ := Dp.reads I e y u he ry
  exact SeqAt.compareNe_reads r1 r2 sd se (Nat.lt_of_le_of_lt (Nat.add_le_add_left hl _) hu) ⟨.bl _, H, I, rfl, q⟩
/-- levels are counted from 40 on -/
theorem Good.un (G : Good X W (k + 40)) : X.A.units + 800 < cLine := by
  have := G.room.un
  omega
theorem Good.hu (G : Good X W (k + 40)) : X.A.units + 1 < cLine := by
  have := G.room.un
  omega
theorem os_eq (G : Good X W (k + 40)) : OpS X W (compareOp .Eq) uEq := by
  intro ρ μ σ H u w x y Q hm ru rw' h
  unfold uEq eqU at h
  cases e1 : datU μ u with
  | none => rw [e1] at h; exact h.elim
  | some d =>
    cases e2 : datU μ w with
    | none => rw [e1, e2] at h; exact h.elim
    | some e =>
      rw [e1, e2] at h
      obtain ⟨a1, a2⟩ := datU_ok hm ru e1
      obtain ⟨b1, b2⟩ := datU_ok hm rw' e2
      by_cases hl : min d.depth e.depth ≤ eqLim
      · simp only [hl, if_true, resB] at h
        exact ⟨_, op_eqL G.un, d, e, a1, b1, a2, b2, hl, h.ok (Stp.refl hm) .bl⟩
      · simp only [hl, if_false, resB] at h
        exact h.elim
theorem os_ne (G : Good X W (k + 40)) : OpS X W (compareOp .NotEq) uNe := by
  intro ρ μ σ H u w x y Q hm ru rw' h
  unfold uNe eqU at h
  cases e1 : datU μ u with
  | none => rw [e1] at h; exact h.elim
  | some d =>
    cases e2 : datU μ w with
    | none => rw [e1, e2] at h; exact h.elim
    | some e =>
      rw [e1, e2] at h
      obtain ⟨a1, a2⟩ := datU_ok hm ru e1
      obtain ⟨b1, b2⟩ := datU_ok hm rw' e2
      by_cases hl : min d.depth e.depth ≤ eqLim
      · simp only [hl, if_true, Option.map_some, resB] at h
        exact ⟨_, op_neL G.un, d, e, a1, b1, a2, b2, hl, h.ok (Stp.refl hm) .bl⟩
      · simp only [hl, if_false, Option.map_none, resB] at h
        exact h.elim

/-! ### arithmetic -/
def big64 (i : Int) : Bool := decide (-(2 ^ 64) < i ∧ i < 2 ^ 64)
def uAdd (u w : U) (μ : Mem) : Res U := match u, w with
  | .int i, .int j => .ok (.int (i + j)) μ
  | .str a, .str b => if a.length + b.length ≤ lim then .ok (.str (a ++ b)) μ else .bad
  | .ref a, .ref b => match μ[a]?, μ[b]? with
    | some (.lst xs), some (.lst ys) => if xs.length + ys.length ≤ lim then .ok (.ref μ.length) (μ ++ [.lst (xs ++ ys)]) else .bad
    | _, _ => .bad
  | .tup (x :: xs), .tup ys => if (x :: xs).length + ys.length ≤ lim then .ok (.tup (x :: xs ++ ys)) μ else .bad
  | .tup [], .tup ys => .ok (.tup ys) μ
  | _, _ => .bad
theorem strOk_append {a b : Str} (ha : PyData.strOk a = true) (hb : PyData.strOk b = true) : PyData.strOk (a ++ b) = true := by
  show ((a.cps ++ b.cps).all _) = true
  rw [Array.all_append]
  exact Bool.and_eq_true_iff.mpr ⟨ha, hb⟩
theorem lst_of {K : PySem.W.Frag} {H : Hp} {ρ : List Addr} {μ : Mem} (hm : RepM K H ρ μ) {i : Nat} {a : Addr} {us : List U} (e : ρ[i]? = some a) (h : μ[i]? = some (.lst us)) : ∃ vs, H a = some (.lst vs) ∧ RepVs K H ρ us vs := hm.get e h
theorem newL {K : PySem.W.Frag} {H : Hp} {ρ : List Addr} {μ : Mem} (hm : RepM K H ρ μ) {p : Addr} {us : List U} {vs : List V} (np : H p = none) (r : RepVs K H ρ us vs) : Stp K ρ H (ρ ++ [p]) (upd H p (.lst vs)) (μ ++ [.lst us]) :=
  Stp.new hm np ⟨vs, upd_same, r.mono (TX.new np) (Ext.snoc ρ p)⟩
theorem refN {K : PySem.W.Frag} {H : Hp} {ρ : List Addr} {μ : Mem} (hm : RepM K H ρ μ) {p : Addr} {H' : Hp} : RepV K H' (ρ ++ [p]) (.ref μ.length) (.ref p) := .ref (by rw [← hm.len, List.getElem?_append_right (Nat.le_refl _)]; simp)
theorem newT {K : PySem.W.Frag} {H : Hp} {ρ : List Addr} {p : Addr} {us : List U} {vs : List V} (np : H p = none) (r : RepVs K H ρ us vs) : RepV K (upd H p (.tup vs)) ρ (.tup us) (.ref p) :=
  .tup (.inl (.inl upd_same)) (r.mono (TX.new np) (Ext.refl _))
theorem os_add : OpS X W (binaryOp .Add) uAdd := by
  intro ρ μ σ H u w x y Q hm ru rw' h
  unfold uAdd at h
  split at h
  · cases ru; cases rw'
    exact ⟨_, op_add, _, _, rfl, rfl, h.ok (Stp.refl hm) .int⟩
  · cases ru with
    | str sa =>
      cases rw' with
      | str sb =>
        split at h
        · exact ⟨_, op_add_str, _, _, rfl, rfl, lim_le (by assumption), h.ok (Stp.refl hm) (.str (strOk_append sa sb))⟩
        · exact h.elim
  · split at h
    · rename_i a b _ _ xs ys e1 e2
      cases ru with
      | ref ra =>
        cases rw' with
        | ref rb =>
          split at h
          · obtain ⟨vs, q1, r1⟩ := lst_of hm ra e1
            obtain ⟨ws, q2, r2⟩ := lst_of hm rb e2
            have hl : vs.length + ws.length ≤ sizeLine := by
              rw [← r1.length, ← r2.length]
              exact lim_le (by assumption)
            exact ⟨_, op_cat, _, _, vs, ws, rfl, rfl, q1, q2, hl, fun p np => h.ok (newL hm np (r1.append r2)) (refN hm)⟩
          · exact h.elim
    · exact h.elim
  · cases ru with
    | tup s1 r1 =>
      cases rw' with
      | tup s2 r2 =>
        split at h
        · rename_i hz
          refine ⟨_, op_catT, _, _, _, _, rfl, rfl, s1, s2, ?_, ?_, fun e => ?_, fun e p np => h.ok (Stp.temp hm np) (newT np (r1.append r2))⟩
          · intro e; subst e; cases r1
          · rw [← r1.length, ← r2.length]; exact lim_le hz
          · subst e
            cases r2
            rw [List.append_nil] at h
            exact h.ok (Stp.refl hm) (.tup s1 r1)
        · exact h.elim
  · cases ru with
    | tup s1 r1 =>
      cases r1
      cases rw' with
      | tup s2 r2 => exact ⟨_, op_cat0, _, _, _, rfl, rfl, s1, s2, h.ok (Stp.refl hm) (.tup s2 r2)⟩
  · exact h.elim
def uSub (u w : U) (μ : Mem) : Res U := match u, w with
  | .int i, .int j => .ok (.int (i - j)) μ
  | _, _ => .bad
theorem os_sub : OpS X W (binaryOp .Sub) uSub := by
  intro ρ μ σ H u w x y Q hm ru rw' h
  unfold uSub at h
  split at h
  · cases ru; cases rw'
    exact ⟨_, op_sub, _, _, rfl, rfl, h.ok (Stp.refl hm) .int⟩
  · exact h.elim
def repU (n : Nat) (xs : List U) : List U := (List.replicate n xs).flatten
theorem RepVs.rep {K : PySem.W.Frag} {H : Hp} {ρ : List Addr} {us : List U} {vs : List V} (r : RepVs K H ρ us vs) : ∀ n : Nat, RepVs K H ρ (repU n us) (List.replicate n vs).flatten
  | 0 => .nil
  | n + 1 => by
    have ih := RepVs.rep r n
    unfold repU at *
    rw [List.replicate_succ, List.replicate_succ, List.flatten_cons, List.flatten_cons]
    exact r.append ih
def uMul (u w : U) (μ : Mem) : Res U := match u, w with
  | .int i, .int j => if big64 i || big64 j then .ok (.int (i * j)) μ else .bad
  | .ref a, .int n => match μ[a]? with
    | some (.lst xs) => if -(2 ^ 63) ≤ n ∧ n < 2 ^ 63 ∧ xs.length * n.toNat ≤ lim then .ok (.ref μ.length) (μ ++ [.lst (repU n.toNat xs)]) else .bad
    | _ => .bad
  | .tup xs, .int n => if -1000 ≤ n ∧ n ≤ 1000 ∧ xs.length ≤ 1000 then .ok (.tup (repU n.toNat xs)) μ else .bad
  | _, _ => .bad
theorem os_mul : OpS X W (binaryOp .Mult) uMul := by
  intro ρ μ σ H u w x y Q hm ru rw' h
  unfold uMul at h
  split at h
  · cases ru; cases rw'
    split at h
    · rename_i hb
      refine ⟨_, op_mul, _, _, rfl, rfl, ?_, h.ok (Stp.refl hm) .int⟩
      rcases Bool.or_eq_true_iff.mp hb with e | e
      · exact .inl (of_decide_eq_true e)
      · exact .inr (of_decide_eq_true e)
    · exact h.elim
  · split at h
    · rename_i xs e1
      cases ru with
      | ref ra =>
        cases rw'
        split at h
        · rename_i hz
          obtain ⟨vs, q1, r1⟩ := lst_of hm ra e1
          exact ⟨_, op_rep, _, _, vs, rfl, rfl, q1, hz.1, hz.2.1, by rw [← r1.length]; exact lim_le hz.2.2, fun p np => h.ok (newL hm np (r1.rep _)) (refN hm)⟩
        · exact h.elim
    · exact h.elim
  · rename_i xs n
    split at h
    · rename_i hz
      cases rw'
      cases ru with
      | tup s1 r1 =>
        rename_i a vs
        by_cases h0 : xs = []
        · subst h0
          cases r1
          have e : repU n.toNat ([] : List U) = [] := by simp [repU]
          rw [e] at h
          exact ⟨_, op_repT1, _, _, _, rfl, rfl, s1, .inl rfl, by omega, by omega, h.ok (Stp.refl hm) (.tup s1 .nil)⟩
        · have hv : vs ≠ [] := fun e => by subst e; cases r1; exact h0 rfl
          by_cases h1 : n = 1
          · subst h1
            have e : repU (1 : Int).toNat xs = xs := by simp [repU]
            rw [e] at h
            exact ⟨_, op_repT1, _, _, _, rfl, rfl, s1, .inr rfl, by omega, by omega, h.ok (Stp.refl hm) (.tup s1 r1)⟩
          · by_cases h2 : n ≤ 0
            · have e : repU n.toNat xs = [] := by rw [Int.toNat_of_nonpos h2]; rfl
              rw [e] at h
              exact ⟨_, op_repT0, _, _, _, rfl, rfl, s1, hv, by omega, h2, fun p np => h.ok (Stp.temp hm np) (newT np .nil)⟩
            · exact ⟨_, op_repT, _, _, _, rfl, rfl, s1, hv, by omega, by omega, by rw [← r1.length]; exact hz.2.2, fun p np => h.ok (Stp.temp hm np) (newT np (r1.rep _))⟩
    · exact h.elim
  · exact h.elim
def uFdiv (u w : U) (μ : Mem) : Res U := match u, w with
  | .int i, .int j => if j ≠ 0 ∧ j.natAbs < 1073741824 then .ok (.int (i.fdiv j)) μ else .bad
  | _, _ => .bad
theorem os_fdiv : OpS X W (binaryOp .FloorDiv) uFdiv := by
  intro ρ μ σ H u w x y Q hm ru rw' h
  unfold uFdiv at h
  split at h
  · cases ru; cases rw'
    split at h
    · exact ⟨_, op_fdivN, _, _, rfl, rfl, by assumption, h.ok (Stp.refl hm) .int⟩
    · exact h.elim
  · exact h.elim
def uMod (u w : U) (μ : Mem) : Res U := match u, w with
  | .int i, .int j => if j ≠ 0 then .ok (.int (i.fmod j)) μ else .bad
  | _, _ => .bad
theorem os_mod : OpS X W (binaryOp .Mod) uMod := by
  intro ρ μ σ H u w x y Q hm ru rw' h
  unfold uMod at h
  split at h
  · cases ru; cases rw'
    split at h
    · exact ⟨_, op_modN, _, _, rfl, rfl, by assumption, h.ok (Stp.refl hm) .int⟩
    · exact h.elim
  · exact h.elim
def uPow (u w : U) (μ : Mem) : Res U := match u, w with
  | .int i, .int j => if 0 ≤ j ∧ j ≤ 1000000 ∧ i.natAbs < 2 ^ 64 then .ok (.int (i ^ j.toNat)) μ else .bad
  | _, _ => .bad
theorem os_pow : OpS X W (binaryOp .Pow) uPow := by
  intro ρ μ σ H u w x y Q hm ru rw' h
  unfold uPow at h
  split at h
  · cases ru; cases rw'
    split at h
    · exact ⟨_, op_pow, _, _, rfl, rfl, by assumption, h.ok (Stp.refl hm) .int⟩
    · exact h.elim
  · exact h.elim
def fNeg (a : FE) : FE := fun s μ => (a s μ).bind fun u μ1 => match u with
  | .int i => .ok (.int (-i)) μ1
  | _ => .bad
theorem ce_neg {a : Expr} {ma : FE} {pos : Pos} (ha : CE X W a ma) : CE X W (.UnaryOp .USub a pos) (fNeg ma) := by
  intro ρ μ s σ H Q hs hm h
  refine ⟨_, pe_un un_neg pe_w, ?_⟩
  refine ha ρ μ s σ H _ hs hm (h.bind fun u μ1 x H1 ρ1 t1 r1 h1 => ?_)
  split at h1
  · cases r1
    exact ⟨_, rfl, h1.ok (Stp.refl t1.mem) .int⟩
  · exact h1.elim

/-! ### comparisons -/
def uCmp (p : Int → Int → Bool) (q : Str → Str → Option Bool) (u w : U) (μ : Mem) : Res U := match u, w with
  | .int i, .int j => .ok (.bl (p i j)) μ
  | .str a, .str b => resB (q a b) μ
  | _, _ => .bad
def strLt (a b : Str) : Bool := PySem.Spec.ltCps a.cps.toList b.cps.toList
def uLt : U → U → Mem → Res U := uCmp (fun i j => decide (i < j)) fun a b => some (strLt a b)
def uLe : U → U → Mem → Res U := uCmp (fun i j => decide (i ≤ j)) fun a b => some (!strLt b a)
def uGt : U → U → Mem → Res U := uCmp (fun i j => decide (j < i)) fun _ _ => none
def uGe : U → U → Mem → Res U := uCmp (fun i j => decide (j ≤ i)) fun _ _ => none
theorem os_cmp {op : CmpOp} {p : Int → Int → Bool} {q : Str → Str → Option Bool} (h1 : OpR X (compareOp op) (rI0 fun i j => .bl (p i j)))
    (h2 : ∀ a b c, q a b = some c → OpR X (compareOp op) (fun x y H Q => x = .str a ∧ y = .str b ∧ Q (.bl c) H)) : OpS X W (compareOp op) (uCmp p q) := by
  intro ρ μ σ H u w x y Q hm ru rw' h
  unfold uCmp at h
  split at h
  · cases ru; cases rw'
    exact ⟨_, h1, _, _, rfl, rfl, h.ok (Stp.refl hm) .bl⟩
  · rename_i a b
    cases ru; cases rw'
    cases e : q a b with
    | none => rw [e] at h; exact h.elim
    | some c =>
      rw [e] at h
      exact ⟨_, h2 a b c e, rfl, rfl, h.ok (Stp.refl hm) .bl⟩
  · exact h.elim
theorem os_lt : OpS X W (compareOp .Lt) uLt := os_cmp op_lt fun a b c e => by
  cases e
  intro pins s σ H x y v u Q I rx ry ⟨ex, ey, q⟩
  exact op_lt_str pins s σ H x y v u Q I rx ry ⟨a, b, ex, ey, by rw [← PyProof.Rows.ltCps_eq]; exact q⟩
theorem os_le : OpS X W (compareOp .LtE) uLe := os_cmp op_le fun a b c e => by
  cases e
  intro pins s σ H x y v u Q I rx ry ⟨ex, ey, q⟩
  exact op_le_str pins s σ H x y v u Q I rx ry ⟨a, b, ex, ey, by rw [← PyProof.Rows.ltCps_eq]; exact q⟩
theorem os_gt : OpS X W (compareOp .Gt) uGt := os_cmp op_gt fun a b c e => nomatch e
theorem os_ge : OpS X W (compareOp .GtE) uGe := os_cmp op_ge fun a b c e => nomatch e
def uIsN (u w : U) (μ : Mem) : Res U := match w, u with
  | .non, .non => .ok (.bl true) μ
  | .non, _ => .ok (.bl false) μ
  | _, _ => .bad
def uNotN (u w : U) (μ : Mem) : Res U := match w, u with
  | .non, .non => .ok (.bl false) μ
  | .non, _ => .ok (.bl true) μ
  | _, _ => .bad
theorem os_isN : OpS X W (compareOp .Is) uIsN := by
  intro ρ μ σ H u w x y Q hm ru rw' h
  unfold uIsN at h
  split at h
  · cases ru; cases rw'
    exact ⟨_, op_isN, rfl, h.ok (Stp.refl hm) .bl⟩
  · rename_i hn
    cases rw'
    have e : decide (x = V.non) = false := decide_eq_false (fun q => by subst q; cases ru; exact hn rfl)
    exact ⟨_, op_isN, rfl, by rw [e]; exact h.ok (Stp.refl hm) .bl⟩
  · exact h.elim
theorem os_notN : OpS X W (compareOp .IsNot) uNotN := by
  intro ρ μ σ H u w x y Q hm ru rw' h
  unfold uNotN at h
  split at h
  · cases ru; cases rw'
    exact ⟨_, op_notN, rfl, h.ok (Stp.refl hm) .bl⟩
  · rename_i hn
    cases rw'
    have e : decide (x = V.non) = false := decide_eq_false (fun q => by subst q; cases ru; exact hn rfl)
    exact ⟨_, op_notN, rfl, by rw [e]; exact h.ok (Stp.refl hm) .bl⟩
  · exact h.elim
/-- a < b < c -/
def fChain (f g : U → U → Mem → Res U) (a b c : FE) : FE := fun s μ => (a s μ).bind fun x μ1 => (b s μ1).bind fun y μ2 => (f x y μ2).bind fun z μ3 => match z with
  | .bl true => (c s μ3).bind fun w μ4 => g y w μ4
  | .bl false => .ok (.bl false) μ3
  | _ => .bad
theorem ce_chain {op op' : CmpOp} {a b c : Expr} {f g : U → U → Mem → Res U} {ma mb mc : FE} {pos : Pos} (ho : OpS X W (compareOp op) f) (ho' : OpS X W (compareOp op') g) (ha : CE X W a ma) (hb : CE X W b mb) (hc : CE X W c mc)
    (hch : ∀ {r r' : R2} {ta tb tc : TE}, OpR X (compareOp op) r → OpR X (compareOp op') r' → PE X a ta → PE X b tb → PE X c tc → PE X (.Compare a [op, op'] [b, c] pos) (tChain r r' ta tb tc)) : CE X W (.Compare a [op, op'] [b, c] pos) (fChain f g ma mb mc) := by
  intro ρ μ s σ H Q hs hm h
  refine ⟨_, hch op_w op_w pe_w pe_w pe_w, ?_⟩
  refine ha ρ μ s σ H _ hs hm (h.bind fun u μ1 x H1 ρ1 t1 r1 h1 => ?_)
  refine hb ρ1 μ1 s σ H1 _ (t1.s hs) t1.mem (h1.bind fun w μ2 y H2 ρ2 t2 r2 h2 => ?_)
  refine ho ρ2 μ2 σ H2 u w x y _ t2.mem (t2.v r1) r2 (h2.bind fun z μ3 v3 H3 ρ3 t3 r3 h3 => ?_)
  split at h3
  · cases r3
    refine ⟨true, rfl, ?_⟩
    refine iteT (hc ρ3 μ3 s σ H3 _ (t3.s (t2.s (t1.s hs))) t3.mem (h3.bind fun z' μ4 v4 H4 ρ4 t4 r4 h4 => ?_))
    exact ho' ρ4 μ4 σ H4 _ _ _ _ Q t4.mem (t4.v (t3.v r2)) r4 h4
  · cases r3
    exact ⟨false, rfl, iteF (h3.ok (Stp.refl t3.mem) .bl)⟩
  · exact h3.elim

/-! ### truth, tests -/
def truU (μ : Mem) : U → Option Bool
  | .non => some false
  | .bl b => some b
  | .int i => some (i != 0)
  | .str s => if s.length ≤ lim then some ((s.length : Int) != 0) else none
  | .tup us => some (!us.isEmpty)
  | .ref i => match μ[i]? with
    | some (.lst us) => some (!us.isEmpty)
    | some (.dct kvs) => some (!kvs.isEmpty)
    | _ => none
  | .frl us => some (!us.isEmpty)
theorem RepVs.empty {K : PySem.W.Frag} {H : Hp} {ρ : List Addr} {us : List U} {vs : List V} (r : RepVs K H ρ us vs) : us.isEmpty = vs.isEmpty := by
  cases r <;> rfl
theorem map_empty {α β γ : Type} {f : α → γ} {g : β → γ} {xs : List α} {ys : List β} (h : xs.map f = ys.map g) : xs.isEmpty = ys.isEmpty := by
  cases xs <;> cases ys <;> simp_all
theorem truU_ok {K : PySem.W.Frag} {H : Hp} {ρ : List Addr} {μ : Mem} (hm : RepM K H ρ μ) {u : U} {v : V} {b : Bool} (r : RepV K H ρ u v) (e : truU μ u = some b) : TruV K v H b := by
  cases r with
  | non => cases e; rfl
  | bl => cases e; rfl
  | int => cases e; rfl
  | str hs =>
    simp only [truU] at e
    split at e
    · cases e; exact ⟨lim_le (by assumption), rfl⟩
    · cases e
  | tup hs hr =>
    cases e
    exact .inr (.inl ⟨_, hs, by rw [hr.empty]⟩)
  | ref hr =>
    obtain ⟨c, hc, rc⟩ := hm.at hr
    simp only [truU, hc] at e
    cases c with
    | lst us => obtain ⟨vs, q, r⟩ := rc; cases e; exact .inl ⟨vs, .inl (.inl q), by rw [r.empty]⟩
    | dct us => obtain ⟨vs, q, r, _⟩ := rc; cases e; exact .inr (.inr ⟨vs, q, by rw [map_empty r]⟩)
    | _ => cases e
  | frl hs hr =>
    cases e
    exact .inl ⟨_, hs.sq, by rw [hr.empty]⟩
def tst (a : FE) : FT := fun s μ => (a s μ).bind fun u μ1 => match truU μ1 u with
  | some b => .ok b μ1
  | none => .bad
theorem ct_val {a : Expr} {ma : FE} (ha : CE X W a ma) (he : ∀ whole, isTrue a X.env whole = (do let v ← whole; standAt a.pos; holding [v] (truthy v)) := by intro _; rfl) : CT X W a (tst ma) := by
  intro ρ μ s σ H Q hs hm h
  refine ⟨_, pt_truth pe_w he, ?_⟩
  refine ha ρ μ s σ H _ hs hm (h.bind fun u μ1 x H1 ρ1 t1 r1 h1 => ?_)
  cases e : truU μ1 u with
  | none => rw [e] at h1; exact h1.elim
  | some b =>
    rw [e] at h1
    exact ⟨b, truU_ok t1.mem r1 e, h1.ok (Stp.refl t1.mem) rfl⟩
/-- a comparison as a test -/
def tstB (a : FE) : FT := fun s μ => (a s μ).bind fun u μ1 => match u with
  | .bl b => .ok b μ1
  | _ => .bad
theorem ct_cmp {op : CmpOp} {a b : Expr} {f : U → U → Mem → Res U} {ma mb : FE} {pos : Pos} (ho : OpS X W (compareOp op) f) (ha : CE X W a ma) (hb : CE X W b mb) (hm0 : behindInMarks op b = false) : CT X W (.Compare a [op] [b] pos) (tstB (fOp f ma mb)) := by
  intro ρ μ s σ H Q hs hm h
  refine ⟨_, pt_cmpR op_w pe_w pe_w hm0, ?_⟩
  have h' : Post X W σ relB ρ H ((ma s μ).bind fun u μ1 => (mb s μ1).bind fun w μ2 => (f u w μ2).bind fun z μ3 => match z with
    | .bl b => .ok b μ3
    | _ => .bad) Q := by
    have e : tstB (fOp f ma mb) s μ = ((ma s μ).bind fun u μ1 => (mb s μ1).bind fun w μ2 => (f u w μ2).bind fun z μ3 => match z with
      | .bl b => .ok b μ3
      | _ => .bad) := by
      unfold tstB fOp
      cases ma s μ with
      | ok u μ1 =>
        show Res.bind (Res.bind (mb s μ1) _) _ = Res.bind (mb s μ1) _
        cases mb s μ1 <;> rfl
      | ex c m => rfl
      | bad => rfl
    rw [← e]; exact h
  refine ha ρ μ s σ H _ hs hm (h'.bind fun u μ1 x H1 ρ1 t1 r1 h1 => ?_)
  refine hb ρ1 μ1 s σ H1 _ (t1.s hs) t1.mem (h1.bind fun w μ2 y H2 ρ2 t2 r2 h2 => ?_)
  refine ho ρ2 μ2 σ H2 u w x y _ t2.mem (t2.v r1) r2 (h2.bind fun z μ3 v H3 ρ3 t3 r3 h3 => ?_)
  split at h3
  · cases r3
    exact ⟨_, rfl, h3.ok (Stp.refl t3.mem) rfl⟩
  · exact h3.elim
theorem ct_chain {op op' : CmpOp} {a b c : Expr} {f g : U → U → Mem → Res U} {ma mb mc : FE} {pos : Pos} (ho : OpS X W (compareOp op) f) (ho' : OpS X W (compareOp op') g) (ha : CE X W a ma) (hb : CE X W b mb) (hc : CE X W c mc)
    (hch : ∀ {r r' : R2} {ta tb tc : TE}, OpR X (compareOp op) r → OpR X (compareOp op') r' → PE X a ta → PE X b tb → PE X c tc → PT X (.Compare a [op, op'] [b, c] pos) (tTest (L2.tChain r r' ta tb tc))) : CT X W (.Compare a [op, op'] [b, c] pos) (tstB (fChain f g ma mb mc)) := by
  intro ρ μ s σ H Q hs hm h
  refine ⟨_, hch op_w op_w pe_w pe_w pe_w, ?_⟩
  have h' : Post X W σ relB ρ H ((ma s μ).bind fun x μ1 => (mb s μ1).bind fun y μ2 => (f x y μ2).bind fun z μ3 => match z with
    | .bl true => (mc s μ3).bind fun w μ4 => (g y w μ4).bind fun z μ3 => match z with
      | .bl b => .ok b μ3
      | _ => .bad
    | .bl false => .ok false μ3
    | _ => .bad) Q := by
    have e : tstB (fChain f g ma mb mc) s μ = ((ma s μ).bind fun x μ1 => (mb s μ1).bind fun y μ2 => (f x y μ2).bind fun z μ3 => match z with
      | .bl true => (mc s μ3).bind fun w μ4 => (g y w μ4).bind fun z μ3 => match z with
        | .bl b => .ok b μ3
        | _ => .bad
      | .bl false => .ok false μ3
      | _ => .bad) := by
      unfold tstB fChain
      cases ma s μ with
      | ok u μ1 =>
        show Res.bind (Res.bind (mb s μ1) _) _ = Res.bind (mb s μ1) _
        cases mb s μ1 with
        | ok w μ2 =>
          show Res.bind (Res.bind (f u w μ2) _) _ = Res.bind (f u w μ2) _
          cases f u w μ2 with
          | ok z μ3 =>
            cases z with
            | bl b =>
              cases b with
              | true =>
                show Res.bind (Res.bind (mc s μ3) _) _ = Res.bind (mc s μ3) _
                cases mc s μ3 <;> rfl
              | false => rfl
            | _ => rfl
          | ex c m => rfl
          | bad => rfl
        | ex c m => rfl
        | bad => rfl
      | ex c m => rfl
      | bad => rfl
    rw [← e]; exact h
  refine ha ρ μ s σ H _ hs hm (h'.bind fun u μ1 x H1 ρ1 t1 r1 h1 => ?_)
  refine hb ρ1 μ1 s σ H1 _ (t1.s hs) t1.mem (h1.bind fun w μ2 y H2 ρ2 t2 r2 h2 => ?_)
  refine ho ρ2 μ2 σ H2 u w x y _ t2.mem (t2.v r1) r2 (h2.bind fun z μ3 v3 H3 ρ3 t3 r3 h3 => ?_)
  split at h3
  · cases r3
    refine ⟨true, rfl, ?_⟩
    refine iteT (hc ρ3 μ3 s σ H3 _ (t3.s (t2.s (t1.s hs))) t3.mem (h3.bind fun z' μ4 v4 H4 ρ4 t4 r4 h4 => ?_))
    refine ho' ρ4 μ4 σ H4 _ _ _ _ _ t4.mem (t4.v (t3.v r2)) r4 (h4.bind fun z μ5 v H5 ρ5 t5 r5 h5 => ?_)
    split at h5
    · cases r5
      exact ⟨_, rfl, h5.ok (Stp.refl t5.mem) rfl⟩
    · exact h5.elim
  · cases r3
    exact ⟨false, rfl, iteF ⟨false, rfl, h3.ok (Stp.refl t3.mem) rfl⟩⟩
  · exact h3.elim
def tNt (t : FT) : FT := fun s μ => (t s μ).bind fun b μ1 => .ok (!b) μ1
theorem ct_not {a : Expr} {ta : FT} {pos : Pos} (ha : CT X W a ta) : CT X W (.UnaryOp .Not a pos) (tNt ta) := by
  intro ρ μ s σ H Q hs hm h
  refine ⟨_, pt_not pt_w, ?_⟩
  refine ha ρ μ s σ H _ hs hm (h.bind fun b μ1 x H1 ρ1 t1 r1 h1 => ?_)
  cases r1
  exact h1.ok (Stp.refl t1.mem) rfl
def tAn (t u : FT) : FT := fun s μ => (t s μ).bind fun b μ1 => match b with
  | true => u s μ1
  | false => .ok false μ1
def tOr' (t u : FT) : FT := fun s μ => (t s μ).bind fun b μ1 => match b with
  | true => .ok true μ1
  | false => u s μ1
/-- chains of and, or -/
def WW (X : Cx) (e : Expr) : TT := fun σ H Q => ∃ t, PW X e t ∧ t σ H Q
theorem pw_w {X : Cx} {e : Expr} : PW X e (WW X e) := ⟨fun wh pins s σ H Q I ⟨_, h, q⟩ => h.run wh pins s σ H Q I q⟩
def CW (X : Cx) (W : WX) (e : Expr) (m : FT) : Prop := ∀ ρ μ s σ H Q, RepS X.K H ρ s σ → RepM X.K H ρ μ → Post X W σ relB ρ H (m s μ) Q → WW X e σ H Q
theorem CW.ct {e : Expr} {m : FT} (h : CW X W e m) : CT X W e m := fun ρ μ s σ H Q hs hm p => by
  obtain ⟨t, h1, h2⟩ := h ρ μ s σ H Q hs hm p
  exact ⟨t, h1.pt, h2⟩
theorem cw_and1 {a : Expr} {ta : FT} {pos : Pos} (ha : CT X W a ta) : CW X W (.BoolOp .And [a] pos) ta := fun ρ μ s σ H Q hs hm p => ⟨_, pw_and1 pt_w, ha ρ μ s σ H Q hs hm p⟩
theorem cw_or1 {a : Expr} {ta : FT} {pos : Pos} (ha : CT X W a ta) : CW X W (.BoolOp .Or [a] pos) ta := fun ρ μ s σ H Q hs hm p => ⟨_, pw_or1 pt_w, ha ρ μ s σ H Q hs hm p⟩
theorem cw_and {a b : Expr} {rest : List Expr} {ta tb : FT} {pos : Pos} (ha : CT X W a ta) (hb : CW X W (.BoolOp .And (b :: rest) pos) tb) : CW X W (.BoolOp .And (a :: b :: rest) pos) (tAn ta tb) := by
  intro ρ μ s σ H Q hs hm h
  refine ⟨_, pw_and pt_w pw_w, ?_⟩
  refine ha ρ μ s σ H _ hs hm (h.bind fun b μ1 x H1 ρ1 t1 r1 h1 => ?_)
  cases r1
  cases b with
  | true => exact iteT (hb ρ1 μ1 s σ H1 Q (t1.s hs) t1.mem h1)
  | false => exact iteF (h1.ok (Stp.refl t1.mem) rfl)
theorem cw_or {a b : Expr} {rest : List Expr} {ta tb : FT} {pos : Pos} (ha : CT X W a ta) (hb : CW X W (.BoolOp .Or (b :: rest) pos) tb) : CW X W (.BoolOp .Or (a :: b :: rest) pos) (tOr' ta tb) := by
  intro ρ μ s σ H Q hs hm h
  refine ⟨_, pw_or pt_w pw_w, ?_⟩
  refine ha ρ μ s σ H _ hs hm (h.bind fun b μ1 x H1 ρ1 t1 r1 h1 => ?_)
  cases r1
  cases b with
  | true => exact iteT (h1.ok (Stp.refl t1.mem) rfl)
  | false => exact iteF (hb ρ1 μ1 s σ H1 Q (t1.s hs) t1.mem h1)
/-- as values: all but the last are True or False -/
def fAnd (a b : FE) : FE := fun s μ => (a s μ).bind fun u μ1 => match u with
  | .bl true => b s μ1
  | .bl false => .ok (.bl false) μ1
  | _ => .bad
def fOr (a b : FE) : FE := fun s μ => (a s μ).bind fun u μ1 => match u with
  | .bl true => .ok (.bl true) μ1
  | .bl false => b s μ1
  | _ => .bad
theorem ce_one {op : BoolOp} {a : Expr} {ma : FE} {pos : Pos} (ha : CE X W a ma) : CE X W (.BoolOp op [a] pos) ma := fun ρ μ s σ H Q hs hm p => ⟨_, pe_one pe_w, ha ρ μ s σ H Q hs hm p⟩
theorem ce_and {a b : Expr} {rest : List Expr} {ma mb : FE} {pos : Pos} (ha : CE X W a ma) (hb : CE X W (.BoolOp .And (b :: rest) pos) mb) : CE X W (.BoolOp .And (a :: b :: rest) pos) (fAnd ma mb) := by
  intro ρ μ s σ H Q hs hm h
  refine ⟨_, pe_and pe_w pe_w, ?_⟩
  refine ha ρ μ s σ H _ hs hm (h.bind fun b μ1 x H1 ρ1 t1 r1 h1 => ?_)
  split at h1
  · cases r1
    exact ⟨_, rfl, iteT (hb ρ1 μ1 s σ H1 Q (t1.s hs) t1.mem h1)⟩
  · cases r1
    exact ⟨_, rfl, iteF (h1.ok (Stp.refl t1.mem) .bl)⟩
  · exact h1.elim
theorem ce_or {a b : Expr} {rest : List Expr} {ma mb : FE} {pos : Pos} (ha : CE X W a ma) (hb : CE X W (.BoolOp .Or (b :: rest) pos) mb) : CE X W (.BoolOp .Or (a :: b :: rest) pos) (fOr ma mb) := by
  intro ρ μ s σ H Q hs hm h
  refine ⟨_, pe_or pe_w pe_w, ?_⟩
  refine ha ρ μ s σ H _ hs hm (h.bind fun b μ1 x H1 ρ1 t1 r1 h1 => ?_)
  split at h1
  · cases r1
    exact ⟨_, rfl, iteT (h1.ok (Stp.refl t1.mem) .bl)⟩
  · cases r1
    exact ⟨_, rfl, iteF (hb ρ1 μ1 s σ H1 Q (t1.s hs) t1.mem h1)⟩
  · exact h1.elim
def fNot (a : FE) : FE := fun s μ => (a s μ).bind fun u μ1 => match u with
  | .bl b => .ok (.bl (!b)) μ1
  | _ => .bad
theorem ce_not {a : Expr} {ma : FE} {pos : Pos} (ha : CE X W a ma) : CE X W (.UnaryOp .Not a pos) (fNot ma) := by
  intro ρ μ s σ H Q hs hm h
  refine ⟨_, pe_not pe_w, ?_⟩
  refine ha ρ μ s σ H _ hs hm (h.bind fun b μ1 x H1 ρ1 t1 r1 h1 => ?_)
  split at h1
  · cases r1
    exact ⟨_, rfl, h1.ok (Stp.refl t1.mem) .bl⟩
  · exact h1.elim
def fIf (t : FT) (a b : FE) : FE := fun s μ => (t s μ).bind fun c μ1 => match c with
  | true => a s μ1
  | false => b s μ1
theorem ce_if {c a b : Expr} {tc : FT} {ma mb : FE} {pos : Pos} (hc : CT X W c tc) (ha : CE X W a ma) (hb : CE X W b mb) : CE X W (.IfExp c a b pos) (fIf tc ma mb) := by
  intro ρ μ s σ H Q hs hm h
  refine ⟨_, pe_ifExp pt_w pe_w pe_w, ?_⟩
  refine hc ρ μ s σ H _ hs hm (h.bind fun b μ1 x H1 ρ1 t1 r1 h1 => ?_)
  cases r1
  cases b with
  | true => exact iteT (ha ρ1 μ1 s σ H1 Q (t1.s hs) t1.mem h1)
  | false => exact iteF (hb ρ1 μ1 s σ H1 Q (t1.s hs) t1.mem h1)

/-! ### arguments, displays -/
def aNil : FA := fun _ μ => .ok [] μ
def aCons (a : FE) (r : FA) : FA := fun s μ => (a s μ).bind fun u μ1 => (r s μ1).bind fun us μ2 => .ok (u :: us) μ2
theorem ca_nil : CA X W [] aNil := fun ρ μ s σ H Q hs hm h => ⟨_, pa_nil, h.ok (Stp.refl hm) .nil⟩
theorem ca_cons {e : Expr} {es : List Expr} {me : FE} {mr : FA} (he : CE X W e me) (hr : CA X W es mr) (hse : starEach (e :: es) X.env = (false, eval e X.env) :: starEach es X.env := by rfl) : CA X W (e :: es) (aCons me mr) := by
  intro ρ μ s σ H Q hs hm h
  refine ⟨_, pa_cons pe_w pa_w hse, ?_⟩
  refine he ρ μ s σ H _ hs hm (h.bind fun u μ1 x H1 ρ1 t1 r1 h1 => ?_)
  refine hr ρ1 μ1 s σ H1 _ (t1.s hs) t1.mem (h1.bind fun us μ2 xs H2 ρ2 t2 r2 h2 => ?_)
  exact h2.ok (Stp.refl t2.mem) (.cons (t2.v r1) r2)
def fTup (a : FA) : FE := fun s μ => (a s μ).bind fun us μ1 => if us.length ≤ lim then .ok (.tup us) μ1 else .bad
def fLst (a : FA) : FE := fun s μ => (a s μ).bind fun us μ1 => if us.length ≤ lim then .ok (.ref μ1.length) (μ1 ++ [.lst us]) else .bad
theorem ce_tup {es : List Expr} {ma : FA} {x1 pos} (ha : CA X W es ma) : CE X W (.Tuple es x1 pos) (fTup ma) := by
  intro ρ μ s σ H Q hs hm h
  refine ⟨_, pe_tup pa_w, ?_⟩
  refine ha ρ μ s σ H _ hs hm (h.bind fun us μ1 vs H1 ρ1 t1 r1 h1 => ?_)
  split at h1
  · exact ⟨by rw [← RepVs.length r1]; exact lim_le (by assumption), fun p np => h1.ok (Stp.temp t1.mem np) (newT np r1)⟩
  · exact h1.elim
theorem ce_lst {es : List Expr} {ma : FA} {pos : Pos} (ha : CA X W es ma) : CE X W (.List es pos) (fLst ma) := by
  intro ρ μ s σ H Q hs hm h
  refine ⟨_, pe_lst pa_w, ?_⟩
  refine ha ρ μ s σ H _ hs hm (h.bind fun us μ1 vs H1 ρ1 t1 r1 h1 => ?_)
  split at h1
  · exact ⟨by rw [← RepVs.length r1]; exact lim_le (by assumption), fun p np => h1.ok (newL t1.mem np r1) (refN t1.mem)⟩
  · exact h1.elim
end
end Dg
/-! Dg3: calls of built-ins, subscripts, slices, dicts, methods. -/
namespace Dg
open PySem PySem.Spec PyProof.Rows L2
section
variable {X : Cx} {W : WX} {k : Nat}

/-! ### calls of built-ins by value -/
def CallW (X : Cx) (f : Value) : List V → Hp → VK → Prop := fun vs H Q => ∃ r, CallR X f r ∧ r vs H Q
theorem call_w {f : Value} : CallR X f (CallW X f) := fun pins s σ H xs us Q I rx ⟨_, h, q⟩ => h pins s σ H xs us Q I rx q
def CallS (X : Cx) (W : WX) (f : Value) (g : List U → Mem → Res U) : Prop := ∀ ρ μ σ H us vs Q, RepM X.K H ρ μ → RepVs X.K H ρ us vs → Post X W σ relV ρ H (g us μ) Q → CallW X f vs H Q
def fCall (g : List U → Mem → Res U) (a : FA) : FE := fun s μ => (a s μ).bind g
theorem ce_callB {id : String} {x : Str} {e : Expr} {es : List Expr} {ma : FA} {g : List U → Mem → Res U} {p pos : Pos} (hc : CallS X W (.builtin id) g) (hg : Gl X x) (hm : X.mg x = none) (hv : bootBuiltins x = some (.builtin id)) (ha : CA X W (e :: es) ma)
    (hp : ∀ {r : List V → Hp → VK → Prop} {t : TA}, CallR X (.builtin id) r → PA X (e :: es) t → PE X (.Call (.Name x p) (e :: es) [] pos) (tCB r t)) : CE X W (.Call (.Name x p) (e :: es) [] pos) (fCall g ma) := by
  intro ρ μ s σ H Q hs hm' h
  refine ⟨_, hp call_w pa_w, ?_⟩
  exact ha ρ μ s σ H _ hs hm' (h.bind fun us μ1 vs H1 ρ1 t1 r1 h1 => hc ρ1 μ1 σ H1 us vs Q t1.mem r1 h1)
theorem ce_callT {T : String} {x : Str} {e : Expr} {es : List Expr} {ma : FA} {g : List U → Mem → Res U} {p pos : Pos} (hc : CallS X W (.type T) g) (hg : Gl X x) (hm : X.mg x = none) (hv : bootBuiltins x = some (.type T)) (ha : CA X W (e :: es) ma)
    (hp : ∀ {r : List V → Hp → VK → Prop} {t : TA}, CallR X (.type T) r → PA X (e :: es) t → PE X (.Call (.Name x p) (e :: es) [] pos) (tCB r t)) : CE X W (.Call (.Name x p) (e :: es) [] pos) (fCall g ma) := by
  intro ρ μ s σ H Q hs hm' h
  refine ⟨_, hp call_w pa_w, ?_⟩
  exact ha ρ μ s σ H _ hs hm' (h.bind fun us μ1 vs H1 ρ1 t1 r1 h1 => hc ρ1 μ1 σ H1 us vs Q t1.mem r1 h1)

/-- what of a list or tuple is read -/
inductive SeqOf (μ : Mem) : U → List U → Prop
  | tup {us : List U} : SeqOf μ (.tup us) us
  | lst {i : Nat} {us : List U} : μ[i]? = some (.lst us) → SeqOf μ (.ref i) us
def seqU (μ : Mem) : U → Option (List U)
  | .tup us => some us
  | .ref i => match μ[i]? with
    | some (.lst us) => some us
    | _ => none
  | .frl us => some us
  | _ => none
theorem seqU_ok {K : PySem.W.Frag} {H : Hp} {ρ : List Addr} {μ : Mem} (hm : RepM K H ρ μ) {u : U} {v : V} {us : List U} (r : RepV K H ρ u v) (e : seqU μ u = some us) : ∃ a vs, v = .ref a ∧ (SqL K H a vs ∨ SqT K H a vs) ∧ RepVs K H ρ us vs := by
  cases r with
  | tup hs hr => cases e; exact ⟨_, _, rfl, .inr hs, hr⟩
  | ref hr =>
    obtain ⟨c, hc, rc⟩ := hm.at hr
    simp only [seqU, hc] at e
    cases c with
    | lst us => obtain ⟨vs, q, r⟩ := rc; cases e; exact ⟨_, vs, rfl, .inl (.inl (.inl q)), r⟩
    | _ => cases e
  | frl hs hr => cases e; exact ⟨_, _, rfl, .inl hs.sq, hr⟩
  | _ => cases e
/-- a list that stands for itself -/
def lstU (μ : Mem) : U → Option (List U)
  | .ref i => match μ[i]? with
    | some (.lst us) => some us
    | _ => none
  | .frl us => some us
  | _ => none
theorem lstU_ok {K : PySem.W.Frag} {H : Hp} {ρ : List Addr} {μ : Mem} (hm : RepM K H ρ μ) {u : U} {v : V} {us : List U} (r : RepV K H ρ u v) (e : lstU μ u = some us) : ∃ a vs, v = .ref a ∧ SqL K H a vs ∧ RepVs K H ρ us vs := by
  cases r with
  | ref hr =>
    obtain ⟨c, hc, rc⟩ := hm.at hr
    simp only [lstU, hc] at e
    cases c with
    | lst us => obtain ⟨vs, q, r⟩ := rc; cases e; exact ⟨_, vs, rfl, .inl (.inl q), r⟩
    | _ => cases e
  | frl hs hr => cases e; exact ⟨_, _, rfl, hs.sq, hr⟩
  | _ => cases e
def lenU (μ : Mem) : U → Option Nat
  | .str z => if z.length ≤ lim then some z.length else none
  | .tup us => some us.length
  | .ref i => match μ[i]? with
    | some (.lst us) => some us.length
    | some (.dct us) => some us.length
    | _ => none
  | .frl us => some us.length
  | _ => none
def bLen (us : List U) (μ : Mem) : Res U := match us with
  | [u] => match lenU μ u with
    | some n => .ok (.int (n : Int)) μ
    | none => .bad
  | _ => .bad
theorem cs_len : CallS X W (.builtin "len") bLen := by
  intro ρ μ σ H us vs Q hm r h
  unfold bLen at h
  split at h
  · rename_i u
    cases r with
    | cons ru r0 =>
      cases r0
      cases e : lenU μ u with
      | none => rw [e] at h; exact h.elim
      | some n =>
        rw [e] at h
        have q : ∀ H', H' = H → Q (.int (n : Int)) H' := fun H' e => e ▸ h.ok (Stp.refl hm) .int
        cases ru with
        | str hs =>
          simp only [lenU] at e
          split at e
          · cases e; exact ⟨_, call_len, _, _, rfl, ⟨lim_le (by assumption), rfl⟩, q _ rfl⟩
          · cases e
        | tup hs hr => cases e; exact ⟨_, call_len, _, _, rfl, .inr ⟨_, hs, hr.length⟩, q _ rfl⟩
        | frl hs hr => cases e; exact ⟨_, call_len, _, _, rfl, .inl ⟨_, hs.sq, hr.length⟩, q _ rfl⟩
        | ref hr =>
          obtain ⟨c, hc, rc⟩ := hm.at hr
          simp only [lenU, hc] at e
          cases c with
          | lst us => obtain ⟨vs, q1, r⟩ := rc; cases e; exact ⟨_, call_len, _, _, rfl, .inl ⟨_, .inl (.inl q1), r.length⟩, q _ rfl⟩
          | dct us =>
            obtain ⟨vs, q1, r, _⟩ := rc
            cases e
            refine ⟨_, call_lenD, _, vs, rfl, q1, ?_⟩
            have : vs.length = us.length := by have := congrArg List.length r; simpa using this
            rw [this]
            exact q _ rfl
          | _ => cases e
        | _ => cases e
  · exact h.elim
def bInt (us : List U) (μ : Mem) : Res U := match us with
  | [.int i] => .ok (.int i) μ
  | [.bl b] => .ok (.int (if b then 1 else 0)) μ
  | _ => .bad
theorem cs_int : CallS X W (.type "int") bInt := by
  intro ρ μ σ H us vs Q hm r h
  unfold bInt at h
  split at h
  · cases r with
    | cons ru r0 => cases r0; cases ru; exact ⟨_, call_int1, .inl ⟨_, rfl, h.ok (Stp.refl hm) .int⟩⟩
  · cases r with
    | cons ru r0 => cases r0; cases ru; exact ⟨_, call_int1, .inr ⟨_, rfl, h.ok (Stp.refl hm) .int⟩⟩
  · exact h.elim
def bAbs (us : List U) (μ : Mem) : Res U := match us with
  | [.int i] => .ok (.int (if i < 0 then -i else i)) μ
  | _ => .bad
theorem cs_abs : CallS X W (.builtin "abs") bAbs := by
  intro ρ μ σ H us vs Q hm r h
  unfold bAbs at h
  split at h
  · cases r with
    | cons ru r0 => cases r0; cases ru; exact ⟨_, call_abs, _, rfl, h.ok (Stp.refl hm) .int⟩
  · exact h.elim
def intsU : List U → Option (List Int)
  | [] => some []
  | .int i :: us => (intsU us).map (i :: ·)
  | _ :: _ => none
theorem intsU_ok : ∀ {us : List U} {is : List Int}, intsU us = some is → us = is.map U.int
  | [], _, e => by cases e; rfl
  | .int i :: us, _, e => by
    simp only [intsU, Option.map_eq_some_iff] at e
    obtain ⟨a, h, rfl⟩ := e
    rw [intsU_ok h]; rfl
  | .non :: us, _, e => by cases e
  | .bl _ :: us, _, e => by cases e
  | .str _ :: us, _, e => by cases e
  | .tup _ :: us, _, e => by cases e
  | .ref _ :: us, _, e => by cases e
  | .frl _ :: us, _, e => by cases e
def strsU : List U → Option (List Str)
  | [] => some []
  | .str i :: us => (strsU us).map (i :: ·)
  | _ :: _ => none
theorem strsU_ok : ∀ {us : List U} {is : List Str}, strsU us = some is → us = is.map U.str
  | [], _, e => by cases e; rfl
  | .str i :: us, _, e => by
    simp only [strsU, Option.map_eq_some_iff] at e
    obtain ⟨a, h, rfl⟩ := e
    rw [strsU_ok h]; rfl
  | .non :: us, _, e => by cases e
  | .bl _ :: us, _, e => by cases e
  | .int _ :: us, _, e => by cases e
  | .tup _ :: us, _, e => by cases e
  | .ref _ :: us, _, e => by cases e
  | .frl _ :: us, _, e => by cases e
def blsU : List U → Option (List Bool)
  | [] => some []
  | .bl i :: us => (blsU us).map (i :: ·)
  | _ :: _ => none
theorem blsU_ok : ∀ {us : List U} {is : List Bool}, blsU us = some is → us = is.map U.bl
  | [], _, e => by cases e; rfl
  | .bl i :: us, _, e => by
    simp only [blsU, Option.map_eq_some_iff] at e
    obtain ⟨a, h, rfl⟩ := e
    rw [blsU_ok h]; rfl
  | .non :: us, _, e => by cases e
  | .str _ :: us, _, e => by cases e
  | .int _ :: us, _, e => by cases e
  | .tup _ :: us, _, e => by cases e
  | .ref _ :: us, _, e => by cases e
  | .frl _ :: us, _, e => by cases e
def maxI : Int → List Int → Int
  | m, [] => m
  | m, x :: xs => maxI (if x > m then x else m) xs
def minI : Int → List Int → Int
  | m, [] => m
  | m, x :: xs => minI (if x < m then x else m) xs
theorem maxI_ok : ∀ (xs : List Int) (m : Int), (maxI m xs = m ∨ maxI m xs ∈ xs) ∧ m ≤ maxI m xs ∧ ∀ y ∈ xs, y ≤ maxI m xs
  | [], m => ⟨.inl rfl, Int.le_refl _, by simp⟩
  | x :: xs, m => by
    obtain ⟨h1, h2, h3⟩ := maxI_ok xs (if x > m then x else m)
    refine ⟨?_, ?_, fun y hy => ?_⟩
    · rcases h1 with h1 | h1
      · show maxI (if x > m then x else m) xs = m ∨ _
        rw [h1]
        by_cases c : x > m
        · rw [if_pos c]; exact .inr (by show maxI (if x > m then x else m) xs ∈ x :: xs; rw [h1, if_pos c]; exact List.mem_cons_self)
        · rw [if_neg c]; exact .inl rfl
      · exact .inr (List.mem_cons_of_mem _ h1)
    · show m ≤ maxI (if x > m then x else m) xs
      by_cases c : x > m
      · rw [if_pos c] at h2 ⊢; omega
      · rw [if_neg c] at h2 ⊢; omega
    · show y ≤ maxI (if x > m then x else m) xs
      rcases List.mem_cons.mp hy with e | e
      · subst e
        by_cases c : y > m
        · rw [if_pos c] at h2 ⊢; omega
        · rw [if_neg c] at h2 ⊢; omega
      · exact h3 y e
theorem minI_ok : ∀ (xs : List Int) (m : Int), (minI m xs = m ∨ minI m xs ∈ xs) ∧ minI m xs ≤ m ∧ ∀ y ∈ xs, minI m xs ≤ y
  | [], m => ⟨.inl rfl, Int.le_refl _, by simp⟩
  | x :: xs, m => by
    obtain ⟨h1, h2, h3⟩ := minI_ok xs (if x < m then x else m)
    refine ⟨?_, ?_, fun y hy => ?_⟩
    · rcases h1 with h1 | h1
      · show minI (if x < m then x else m) xs = m ∨ _
        rw [h1]
        by_cases c : x < m
        · rw [if_pos c]; exact .inr (by show minI (if x < m then x else m) xs ∈ x :: xs; rw [h1, if_pos c]; exact List.mem_cons_self)
        · rw [if_neg c]; exact .inl rfl
      · exact .inr (List.mem_cons_of_mem _ h1)
    · show minI (if x < m then x else m) xs ≤ m
      by_cases c : x < m
      · rw [if_pos c] at h2 ⊢; omega
      · rw [if_neg c] at h2 ⊢; omega
    · show minI (if x < m then x else m) xs ≤ y
      rcases List.mem_cons.mp hy with e | e
      · subst e
        by_cases c : y < m
        · rw [if_pos c] at h2 ⊢; omega
        · rw [if_neg c] at h2 ⊢; omega
      · exact h3 y e
def bMax (us : List U) (μ : Mem) : Res U := match us with
  | [.int i, .int j] => .ok (.int (if j > i then j else i)) μ
  | [.ref r] => match (lstU μ (.ref r)).bind intsU with
    | some (m :: is) => .ok (.int (maxI m is)) μ
    | _ => .bad
  | _ => .bad
def bMin (us : List U) (μ : Mem) : Res U := match us with
  | [.int i, .int j] => .ok (.int (if j < i then j else i)) μ
  | [.ref r] => match (lstU μ (.ref r)).bind intsU with
    | some (m :: is) => .ok (.int (minI m is)) μ
    | _ => .bad
  | _ => .bad
theorem cs_max (hc : X.calm = true) : CallS X W (.builtin "max") bMax := by
  intro ρ μ σ H us vs Q hm r h
  unfold bMax at h
  split at h
  · cases r with
    | cons ru r0 => cases r0 with | cons rw' r1 => cases r1; cases ru; cases rw'; exact ⟨_, call_max2 hc, _, _, rfl, h.ok (Stp.refl hm) .int⟩
  · rename_i i
    cases r with
    | cons ru r0 =>
      cases r0
      split at h
      · rename_i m is e
        obtain ⟨us, e1, e2⟩ := Option.bind_eq_some_iff.mp e
        obtain ⟨a, vs, rfl, q1, r1⟩ := lstU_ok hm ru e1
        rw [intsU_ok e2] at r1
        rw [r1.ints] at q1
        refine ⟨_, cr_max hc, a, m :: is, rfl, q1, by simp, fun z hz hle => ?_⟩
        have ez : z = maxI m is := by
          obtain ⟨h1, h2, h3⟩ := maxI_ok is m
          have a1 : maxI m is ≤ z := by
            rcases h1 with h1 | h1
            · rw [h1]; exact hle m (by simp)
            · exact hle _ (List.mem_cons_of_mem _ h1)
          have a2 : z ≤ maxI m is := by
            rcases List.mem_cons.mp hz with e | e
            · rw [e]; exact h2
            · exact h3 z e
          omega
        rw [ez]
        exact h.ok (Stp.refl hm) .int
      · exact h.elim
  · exact h.elim
theorem cs_min (hc : X.calm = true) : CallS X W (.builtin "min") bMin := by
  intro ρ μ σ H us vs Q hm r h
  unfold bMin at h
  split at h
  · cases r with
    | cons ru r0 => cases r0 with | cons rw' r1 => cases r1; cases ru; cases rw'; exact ⟨_, call_min2 hc, _, _, rfl, h.ok (Stp.refl hm) .int⟩
  · rename_i i
    cases r with
    | cons ru r0 =>
      cases r0
      split at h
      · rename_i m is e
        obtain ⟨us, e1, e2⟩ := Option.bind_eq_some_iff.mp e
        obtain ⟨a, vs, rfl, q1, r1⟩ := lstU_ok hm ru e1
        rw [intsU_ok e2] at r1
        rw [r1.ints] at q1
        refine ⟨_, cr_min hc, a, m :: is, rfl, q1, by simp, fun z hz hle => ?_⟩
        have ez : z = minI m is := by
          obtain ⟨h1, h2, h3⟩ := minI_ok is m
          have a1 : z ≤ minI m is := by
            rcases h1 with h1 | h1
            · rw [h1]; exact hle m (by simp)
            · exact hle _ (List.mem_cons_of_mem _ h1)
          have a2 : minI m is ≤ z := by
            rcases List.mem_cons.mp hz with e | e
            · rw [e]; exact h2
            · exact h3 z e
          omega
        rw [ez]
        exact h.ok (Stp.refl hm) .int
      · exact h.elim
  · exact h.elim
def bSum (us : List U) (μ : Mem) : Res U := match us with
  | [.ref r] => match (lstU μ (.ref r)).bind intsU with
    | some is => .ok (.int is.sum) μ
    | _ => .bad
  | _ => .bad
theorem cs_sum (hc : X.calm = true) : CallS X W (.builtin "sum") bSum := by
  intro ρ μ σ H us vs Q hm r h
  unfold bSum at h
  split at h
  · cases r with
    | cons ru r0 =>
      cases r0
      split at h
      · rename_i is e
        obtain ⟨us, e1, e2⟩ := Option.bind_eq_some_iff.mp e
        obtain ⟨a, vs, rfl, q1, r1⟩ := lstU_ok hm ru e1
        rw [intsU_ok e2] at r1
        rw [r1.ints] at q1
        exact ⟨_, cr_sum hc, a, is, rfl, q1, h.ok (Stp.refl hm) .int⟩
      · exact h.elim
  · exact h.elim
def bAll (us : List U) (μ : Mem) : Res U := match us with
  | [.ref r] => match (lstU μ (.ref r)).bind blsU with
    | some is => .ok (.bl (is.all id)) μ
    | _ => .bad
  | _ => .bad
def bAny (us : List U) (μ : Mem) : Res U := match us with
  | [.ref r] => match (lstU μ (.ref r)).bind blsU with
    | some is => .ok (.bl (is.any id)) μ
    | _ => .bad
  | _ => .bad
theorem cs_all (hc : X.calm = true) : CallS X W (.builtin "all") bAll := by
  intro ρ μ σ H us vs Q hm r h
  unfold bAll at h
  split at h
  · cases r with
    | cons ru r0 =>
      cases r0
      split at h
      · rename_i is e
        obtain ⟨us, e1, e2⟩ := Option.bind_eq_some_iff.mp e
        obtain ⟨a, vs, rfl, q1, r1⟩ := lstU_ok hm ru e1
        rw [blsU_ok e2] at r1
        rw [r1.bls] at q1
        exact ⟨_, cr_all hc, a, is, rfl, q1, h.ok (Stp.refl hm) .bl⟩
      · exact h.elim
  · exact h.elim
theorem cs_any (hc : X.calm = true) : CallS X W (.builtin "any") bAny := by
  intro ρ μ σ H us vs Q hm r h
  unfold bAny at h
  split at h
  · cases r with
    | cons ru r0 =>
      cases r0
      split at h
      · rename_i is e
        obtain ⟨us, e1, e2⟩ := Option.bind_eq_some_iff.mp e
        obtain ⟨a, vs, rfl, q1, r1⟩ := lstU_ok hm ru e1
        rw [blsU_ok e2] at r1
        rw [r1.bls] at q1
        exact ⟨_, cr_any hc, a, is, rfl, q1, h.ok (Stp.refl hm) .bl⟩
      · exact h.elim
  · exact h.elim
def bList (us : List U) (μ : Mem) : Res U := match us with
  | [u] => match seqU μ u with
    | some xs => .ok (.ref μ.length) (μ ++ [.lst xs])
    | none => .bad
  | _ => .bad
theorem cs_list : CallS X W (.type "list") bList := by
  intro ρ μ σ H us vs Q hm r h
  unfold bList at h
  split at h
  · cases r with
    | cons ru r0 =>
      cases r0
      split at h
      · rename_i xs e
        obtain ⟨a, vs, rfl, q1, r1⟩ := seqU_ok hm ru e
        exact ⟨_, call_list_of, a, vs, rfl, q1, fun p np => h.ok (newL hm np r1) (refN hm)⟩
      · exact h.elim
  · exact h.elim
def bTuple (us : List U) (μ : Mem) : Res U := match us with
  | [u] => match seqU μ u with
    | some xs => .ok (.tup xs) μ
    | none => .bad
  | _ => .bad
theorem cs_tuple : CallS X W (.type "tuple") bTuple := by
  intro ρ μ σ H us vs Q hm r h
  unfold bTuple at h
  split at h
  · cases r with
    | cons ru r0 =>
      cases r0
      split at h
      · rename_i xs e
        obtain ⟨a, vs, rfl, q1, r1⟩ := seqU_ok hm ru e
        refine ⟨_, call_tuple_of, a, vs, rfl, ?_⟩
        rcases q1 with q1 | q1
        · exact .inl ⟨q1, fun p np => h.ok (Stp.temp hm np) (newT np r1)⟩
        · exact .inr ⟨q1, h.ok (Stp.refl hm) (.tup q1 r1)⟩
      · exact h.elim
  · exact h.elim

/-! ### sorted -/
def insI (x : Int) : List Int → List Int
  | [] => [x]
  | y :: ys => if x ≤ y then x :: y :: ys else y :: insI x ys
def sortI : List Int → List Int
  | [] => []
  | x :: xs => insI x (sortI xs)
theorem insI_perm (x : Int) : ∀ ys, (insI x ys).Perm (x :: ys)
  | [] => List.Perm.refl _
  | y :: ys => by
    unfold insI
    split
    · exact List.Perm.refl _
    · exact ((insI_perm x ys).cons y).trans (List.Perm.swap x y ys)
theorem sortI_perm : ∀ xs, (sortI xs).Perm xs
  | [] => List.Perm.refl _
  | x :: xs => (insI_perm x (sortI xs)).trans ((sortI_perm xs).cons x)
theorem insI_sorted (x : Int) : ∀ ys : List Int, ys.Pairwise (· ≤ ·) → (insI x ys).Pairwise (· ≤ ·)
  | [], _ => by simp [insI]
  | y :: ys, h => by
    unfold insI
    rw [List.pairwise_cons] at h
    split
    · rename_i c
      rw [List.pairwise_cons, List.pairwise_cons]
      refine ⟨fun z hz => ?_, h⟩
      rcases List.mem_cons.mp hz with e | e
      · rw [e]; exact c
      · exact Int.le_trans c (h.1 z e)
    · rename_i c
      rw [List.pairwise_cons]
      refine ⟨fun z hz => ?_, insI_sorted x ys h.2⟩
      rcases List.mem_cons.mp ((insI_perm x ys).mem_iff.mp hz) with e | e
      · rw [e]; omega
      · exact h.1 z e
theorem sortI_sorted : ∀ xs, (sortI xs).Pairwise (· ≤ ·)
  | [] => .nil
  | x :: xs => insI_sorted x _ (sortI_sorted xs)
theorem sorted_unique : ∀ {a b : List Int}, a.Perm b → a.Pairwise (· ≤ ·) → b.Pairwise (· ≤ ·) → a = b
  | [], b, p, _, _ => by rw [List.nil_perm.mp p]
  | x :: a, [], p, _, _ => by simp at p
  | x :: a, y :: b, p, ha, hb => by
    rw [List.pairwise_cons] at ha hb
    have hx : x ∈ y :: b := p.mem_iff.mp (by simp)
    have hy : y ∈ x :: a := p.mem_iff.mpr (by simp)
    have e : x = y := by
      rcases List.mem_cons.mp hx with q | q
      · exact q
      · rcases List.mem_cons.mp hy with q2 | q2
        · exact q2.symm
        · exact Int.le_antisymm (ha.1 y q2) (hb.1 x q)
    subst e
    rw [sorted_unique (List.Perm.cons_inv p) ha.2 hb.2]
abbrev leC (a b : List Nat) : Prop := PySem.Spec.ltCps b a = false
theorem leC_refl : ∀ a : List Nat, leC a a
  | [] => rfl
  | a :: r => by
    have := leC_refl r
    simp_all [leC, PySem.Spec.ltCps]
theorem leC_anti : ∀ {a b : List Nat}, leC a b → leC b a → a = b
  | [], [], _, _ => rfl
  | [], _ :: _, h, g => by simp [leC, PySem.Spec.ltCps] at h g
  | _ :: _, [], h, g => by simp [leC, PySem.Spec.ltCps] at h g
  | a :: r, b :: t, h, g => by
    simp only [leC, PySem.Spec.ltCps, Bool.or_eq_false_iff, decide_eq_false_iff_not, Bool.and_eq_false_iff, beq_eq_false_iff_ne] at h g
    have e : a = b := by omega
    subst e
    have h2 : leC r t := by rcases h.2 with q | q; exact absurd rfl q; exact q
    have g2 : leC t r := by rcases g.2 with q | q; exact absurd rfl q; exact q
    rw [leC_anti h2 g2]
theorem leC_trans : ∀ {a b c : List Nat}, leC a b → leC b c → leC a c
  | [], _, [], _, _ => rfl
  | [], _, _ :: _, _, _ => rfl
  | _ :: _, [], _, h, _ => by simp [leC, PySem.Spec.ltCps] at h
  | _ :: _, _ :: _, [], _, g => by simp [leC, PySem.Spec.ltCps] at g
  | a :: r, b :: t, c :: w, h, g => by
    simp only [leC, PySem.Spec.ltCps, Bool.or_eq_false_iff, decide_eq_false_iff_not, Bool.and_eq_false_iff, beq_eq_false_iff_ne] at h g ⊢
    refine ⟨by omega, ?_⟩
    by_cases e : c = a
    · right
      have e1 : b = a := by omega
      have e2 : c = b := by omega
      have h2 : leC r t := by rcases h.2 with q | q; exact absurd e1 q; exact q
      have g2 : leC t w := by rcases g.2 with q | q; exact absurd e2 q; exact q
      exact leC_trans h2 g2
    · left; exact e
theorem leC_total (a b : List Nat) : leC a b ∨ leC b a := by
  induction a generalizing b with
  | nil => cases b <;> simp [leC, PySem.Spec.ltCps]
  | cons x r ih =>
    cases b with
    | nil => right; rfl
    | cons y t =>
      simp only [leC, PySem.Spec.ltCps, Bool.or_eq_false_iff, decide_eq_false_iff_not, Bool.and_eq_false_iff, beq_eq_false_iff_ne]
      by_cases h1 : x < y
      · left; exact ⟨by omega, .inl (by omega)⟩
      · by_cases h2 : y < x
        · right; exact ⟨by omega, .inl (by omega)⟩
        · rcases ih t with q | q
          · left; exact ⟨h2, .inr q⟩
          · right; exact ⟨h1, .inr q⟩
def leS (a b : Str) : Prop := leC a.cps.toList b.cps.toList
theorem leS_anti {a b : Str} (h : leS a b) (g : leS b a) : a = b := by
  have e := leC_anti h g
  cases a with | mk a => cases b with | mk b => exact congrArg Str.mk (Array.toList_inj.mp e)
theorem leS_of_rising : ∀ (r : List Str) (p : Str), risingS p r = true → (p :: r).Pairwise leS
  | [], p, _ => by simp
  | x :: r, p, h => by
    simp only [risingS, Bool.and_eq_true, Bool.not_eq_true'] at h
    have ih := leS_of_rising r x h.2
    rw [List.pairwise_cons] at ih
    rw [List.pairwise_cons, List.pairwise_cons]
    have h1 : leS p x := h.1
    refine ⟨fun z hz => ?_, ih⟩
    rcases List.mem_cons.mp hz with e | e
    · rw [e]; exact h1
    · exact leC_trans h1 (ih.1 z e)
theorem leS_of_sorted : ∀ {r : List Str}, sortedS r = true → r.Pairwise leS
  | [], _ => .nil
  | x :: r, h => leS_of_rising r x h
theorem uniqueS : ∀ {a b : List Str}, a.Perm b → a.Pairwise leS → b.Pairwise leS → a = b
  | [], b, p, _, _ => by rw [List.nil_perm.mp p]
  | x :: a, [], p, _, _ => by simp at p
  | x :: a, y :: b, p, ha, hb => by
    rw [List.pairwise_cons] at ha hb
    have hx : x ∈ y :: b := p.mem_iff.mp (by simp)
    have hy : y ∈ x :: a := p.mem_iff.mpr (by simp)
    have e : x = y := by
      rcases List.mem_cons.mp hx with q | q
      · exact q
      · rcases List.mem_cons.mp hy with q2 | q2
        · exact q2.symm
        · exact leS_anti (ha.1 y q2) (hb.1 x q)
    subst e
    rw [uniqueS (List.Perm.cons_inv p) ha.2 hb.2]
def insS (x : Str) : List Str → List Str
  | [] => [x]
  | y :: ys => if strLt y x then y :: insS x ys else x :: y :: ys
def sortS : List Str → List Str
  | [] => []
  | x :: xs => insS x (sortS xs)
theorem insS_perm (x : Str) : ∀ ys, (insS x ys).Perm (x :: ys)
  | [] => List.Perm.refl _
  | y :: ys => by
    unfold insS
    split
    · exact ((insS_perm x ys).cons y).trans (List.Perm.swap x y ys)
    · exact List.Perm.refl _
theorem sortS_perm : ∀ xs, (sortS xs).Perm xs
  | [] => List.Perm.refl _
  | x :: xs => (insS_perm x (sortS xs)).trans ((sortS_perm xs).cons x)
theorem insS_sorted (x : Str) : ∀ ys : List Str, ys.Pairwise leS → (insS x ys).Pairwise leS
  | [], _ => by simp [insS]
  | y :: ys, h => by
    unfold insS
    rw [List.pairwise_cons] at h
    split
    · rename_i c
      have yx : leS y x := by
        rcases leC_total y.cps.toList x.cps.toList with q | q
        · exact q
        · rw [leC] at q
          unfold strLt at c
          rw [q] at c; cases c
      rw [List.pairwise_cons]
      refine ⟨fun z hz => ?_, insS_sorted x ys h.2⟩
      rcases List.mem_cons.mp ((insS_perm x ys).mem_iff.mp hz) with e | e
      · rw [e]; exact yx
      · exact h.1 z e
    · rename_i c
      have xy : leS x y := by
        unfold strLt at c
        exact Bool.eq_false_iff.mpr c
      rw [List.pairwise_cons, List.pairwise_cons]
      refine ⟨fun z hz => ?_, h⟩
      rcases List.mem_cons.mp hz with e | e
      · rw [e]; exact xy
      · exact leC_trans xy (h.1 z e)
theorem sortS_sorted : ∀ xs, (sortS xs).Pairwise leS
  | [] => .nil
  | x :: xs => insS_sorted x _ (sortS_sorted xs)
def keysS : List (Key × U) → Option (List Str)
  | [] => some []
  | (.inr x, _) :: r => (keysS r).map (x :: ·)
  | _ :: _ => none
theorem keysS_ok : ∀ {us : List (Key × U)} {is : List Str}, keysS us = some is → us.map (·.1) = is.map Sum.inr
  | [], _, e => by cases e; rfl
  | (.inr x, _) :: us, _, e => by
    simp only [keysS, Option.map_eq_some_iff] at e
    obtain ⟨a, h, rfl⟩ := e
    simp [keysS_ok h]
  | (.inl _, _) :: us, _, e => by cases e
def keysI : List (Key × U) → Option (List Int)
  | [] => some []
  | (.inl x, _) :: r => (keysI r).map (x :: ·)
  | _ :: _ => none
theorem keysI_ok : ∀ {us : List (Key × U)} {is : List Int}, keysI us = some is → us.map (·.1) = is.map Sum.inl
  | [], _, e => by cases e; rfl
  | (.inl x, _) :: us, _, e => by
    simp only [keysI, Option.map_eq_some_iff] at e
    obtain ⟨a, h, rfl⟩ := e
    simp [keysI_ok h]
  | (.inr _, _) :: us, _, e => by cases e
def keyOk : Key → Bool
  | .inl _ => true
  | .inr x => PyData.strOk x
/-- sorted: ints; fewer than 64 texts; a dict's fewer than 64 text keys -/
def bSorted (us : List U) (μ : Mem) : Res U := match us with
  | [.ref r] => match μ[r]? with
    | some (.dct kvs) => match keysS kvs with
      | some ks => if ks.length < 64 ∧ ks.all PyData.strOk = true then .ok (.ref μ.length) (μ ++ [.lst ((sortS ks).map U.str)]) else .bad
      | none => match keysI kvs with
        | some ks => if ks.length < 64 then .ok (.ref μ.length) (μ ++ [.lst ((sortI ks).map U.int)]) else .bad
        | none => .bad
    | _ => match lstU μ (.ref r) with
      | some xs => match strsU xs with
        | some ss => if ss.length < 64 then .ok (.ref μ.length) (μ ++ [.lst ((sortS ss).map U.str)]) else .bad
        | none => match intsU xs with
          | some is => .ok (.ref μ.length) (μ ++ [.lst ((sortI is).map U.int)])
          | none => .bad
      | none => .bad
  | _ => .bad
theorem cs_sorted (hc : X.calm = true) : CallS X W (.builtin "sorted") bSorted := by
  intro ρ μ σ H us vs Q hm r h
  unfold bSorted at h
  split at h
  · rename_i i
    cases r with
    | cons ru r0 =>
      cases r0
      split at h
      · rename_i kvs e0
        split at h
        · rename_i ks ek
          split at h
          · rename_i hz
            cases ru with
            | ref hr =>
              obtain ⟨ws, q1, q2, _⟩ := hm.get hr e0
              refine ⟨_, call_sortedD hc, _, ws, ks, rfl, .inl q1, q2.trans (keysS_ok ek), hz.1, fun ys p pm sd np => ?_⟩
              have ey : ys = sortS ks := uniqueS (pm.trans (sortS_perm ks).symm) (leS_of_sorted sd) (sortS_sorted ks)
              subst ey
              exact h.ok (newL hm np (RepVs.ofStrs _ fun x hx => List.all_eq_true.mp hz.2 x ((sortS_perm ks).mem_iff.mp hx))) (refN hm)
          · exact h.elim
        · split at h
          · rename_i ks ek
            split at h
            · rename_i hz
              cases ru with
              | ref hr =>
                obtain ⟨ws, q1, q2, _⟩ := hm.get hr e0
                refine ⟨_, call_sortedDI hc, _, ws, ks, rfl, .inl q1, q2.trans (keysI_ok ek), hz, fun ys p pm sd np => ?_⟩
                have ey : ys = sortI ks := sorted_unique (pm.trans (sortI_perm ks).symm) sd (sortI_sorted ks)
                subst ey
                exact h.ok (newL hm np (RepVs.ofInts _)) (refN hm)
            · exact h.elim
          · exact h.elim
      · split at h
        · rename_i xs e1
          obtain ⟨a, vs, rfl, q1, r1⟩ := lstU_ok hm ru e1
          split at h
          · rename_i ss e2
            split at h
            · rename_i hz
              rw [strsU_ok e2] at r1
              have ok := r1.strsOk
              rw [r1.strs] at q1
              refine ⟨_, cr_sortedS, a, ss, rfl, q1, hz, fun ys p pm sd np => ?_⟩
              have ey : ys = sortS ss := uniqueS (pm.trans (sortS_perm ss).symm) (leS_of_sorted sd) (sortS_sorted ss)
              subst ey
              exact h.ok (newL hm np (RepVs.ofStrs _ fun x hx => ok x ((sortS_perm ss).mem_iff.mp hx))) (refN hm)
            · exact h.elim
          · split at h
            · rename_i is e3
              rw [intsU_ok e3] at r1
              rw [r1.ints] at q1
              refine ⟨_, cr_sortedI, a, is, rfl, q1, fun ys p pm sd np => ?_⟩
              have ey : ys = sortI is := sorted_unique (pm.trans (sortI_perm is).symm) sd (sortI_sorted is)
              subst ey
              exact h.ok (newL hm np (RepVs.ofInts _)) (refN hm)
            · exact h.elim
        · exact h.elim
  · exact h.elim
end
end Dg
/-! Dg4: subscripts, slices, dicts, isinstance, methods. -/
namespace Dg
open PySem PySem.Spec PyProof.Rows L2

/-! ### dicts by their pairs -/
def valU (kus : List (Key × U)) (k : Key) : Option U := (kus.find? fun kv => decide (kv.1 = k)).map (·.2)
def putU (kus : List (Key × U)) (k : Key) (u : U) : List (Key × U) :=
  if (kus.any fun kv => decide (kv.1 = k)) = true then kus.map (fun kv => if kv.1 = k then (kv.1, u) else kv) else kus ++ [(k, u)]
structure RepKV (K : PySem.W.Frag) (H : Hp) (ρ : List Addr) (kus : List (Key × U)) (kvs : List (Key × V)) : Prop where
  keys : kvs.map (·.1) = kus.map (·.1)
  vals : RepVs K H ρ (kus.map (·.2)) (kvs.map (·.2))
section
variable {K : PySem.W.Frag} {H : Hp} {ρ : List Addr}
theorem RepKV.nil : RepKV K H ρ [] [] := ⟨rfl, .nil⟩
theorem RepKV.cons {k : Key} {u : U} {v : V} {kus : List (Key × U)} {kvs : List (Key × V)} (r : RepV K H ρ u v) (h : RepKV K H ρ kus kvs) : RepKV K H ρ ((k, u) :: kus) ((k, v) :: kvs) := ⟨by simp [h.keys], .cons r h.vals⟩
theorem RepKV.uncons {p : Key × U} {kus : List (Key × U)} {ws : List (Key × V)} (h : RepKV K H ρ (p :: kus) ws) : ∃ v kvs, ws = (p.1, v) :: kvs ∧ RepV K H ρ p.2 v ∧ RepKV K H ρ kus kvs := by
  obtain ⟨h1, h2⟩ := h
  cases ws with
  | nil => simp at h1
  | cons w ws =>
    simp only [List.map_cons, List.cons.injEq] at h1
    rw [List.map_cons, List.map_cons] at h2
    cases h2 with
    | cons r1 r2 => exact ⟨w.2, ws, by rw [← h1.1], r1, h1.2, r2⟩
theorem RepKV.unnil {ws : List (Key × V)} (h : RepKV K H ρ [] ws) : ws = [] := by
  have := h.keys
  simpa using this
theorem RepKV.length {kus : List (Key × U)} {kvs : List (Key × V)} (h : RepKV K H ρ kus kvs) : kvs.length = kus.length := by
  have := congrArg List.length h.keys
  simpa using this
theorem RepKV.mono {H' : Hp} {ρ' : List Addr} {kus : List (Key × U)} {kvs : List (Key × V)} (t : TX H H') (e : Ext ρ ρ') (h : RepKV K H ρ kus kvs) : RepKV K H' ρ' kus kvs := ⟨h.keys, h.vals.mono t e⟩
theorem RepKV.val {k : Key} : ∀ {kus : List (Key × U)} {kvs : List (Key × V)}, RepKV K H ρ kus kvs → (∀ u, valU kus k = some u → ∃ v, valV kvs k = some v ∧ RepV K H ρ u v) ∧ (valU kus k = none → valV kvs k = none)
  | [], _, h => by rw [h.unnil]; exact ⟨fun u e => by simp [valU] at e, fun _ => rfl⟩
  | p :: kus, ws, h => by
    obtain ⟨v, kvs, rfl, r, t⟩ := h.uncons
    have ih := RepKV.val (k := k) t
    by_cases e : p.1 = k
    · refine ⟨fun u hu => ⟨v, valV_pos e, ?_⟩, fun hn => ?_⟩
      · simp [valU, e] at hu
        exact hu ▸ r
      · simp [valU, e] at hn
    · rw [valV_neg (p := (p.1, v)) e]
      have : valU (p :: kus) k = valU kus k := by simp [valU, e]
      rw [this]
      exact ih
theorem RepKV.any {k : Key} {kus : List (Key × U)} {kvs : List (Key × V)} (h : RepKV K H ρ kus kvs) : (kvs.any fun kv => decide (kv.1 = k)) = (kus.any fun kv => decide (kv.1 = k)) := by
  have e1 : (kvs.any fun kv => decide (kv.1 = k)) = (kvs.map (·.1)).any fun x => decide (x = k) := by simp [List.any_map, Function.comp_def]
  have e2 : (kus.any fun kv => decide (kv.1 = k)) = (kus.map (·.1)).any fun x => decide (x = k) := by simp [List.any_map, Function.comp_def]
  rw [e1, e2, h.keys]
theorem RepKV.mapPut {k : Key} {u : U} {v : V} (r : RepV K H ρ u v) : ∀ {kus : List (Key × U)} {kvs : List (Key × V)}, RepKV K H ρ kus kvs →
    RepKV K H ρ (kus.map fun kv => if kv.1 = k then (kv.1, u) else kv) (kvs.map fun kv => if kv.1 = k then (kv.1, v) else kv)
  | [], _, h => by rw [h.unnil]; exact .nil
  | p :: kus, ws, h => by
    obtain ⟨v0, kvs, rfl, r0, t⟩ := h.uncons
    have ih := RepKV.mapPut (k := k) r t
    rw [List.map_cons, List.map_cons]
    by_cases e : p.1 = k
    · simp only [e, if_true]; exact ih.cons r
    · simp only [e, if_false]; exact ih.cons (k := p.1) r0
theorem RepKV.snoc {k : Key} {u : U} {v : V} (r : RepV K H ρ u v) {kus : List (Key × U)} {kvs : List (Key × V)} (h : RepKV K H ρ kus kvs) : RepKV K H ρ (kus ++ [(k, u)]) (kvs ++ [(k, v)]) := ⟨by simp [h.keys], by
  rw [List.map_append, List.map_append]; exact h.vals.append (.one r)⟩
theorem RepKV.put {k : Key} {u : U} {v : V} (r : RepV K H ρ u v) {kus : List (Key × U)} {kvs : List (Key × V)} (h : RepKV K H ρ kus kvs) : RepKV K H ρ (putU kus k u) (putK kvs k v) := by
  unfold putU putK
  rw [h.any]
  split
  · exact h.mapPut r
  · exact h.snoc r
theorem dct_of {μ : Mem} (hm : RepM K H ρ μ) {i : Nat} {a : Addr} {kus : List (Key × U)} (e : ρ[i]? = some a) (h : μ[i]? = some (.dct kus)) : ∃ kvs, H a = some (.dK kvs) ∧ RepKV K H ρ kus kvs := by
  obtain ⟨kvs, q, w, r⟩ := hm.get e h
  exact ⟨kvs, q, w, r⟩
theorem newD {μ : Mem} (hm : RepM K H ρ μ) {p : Addr} {kus : List (Key × U)} {kvs : List (Key × V)} (np : H p = none) (r : RepKV K H ρ kus kvs) : Stp K ρ H (ρ ++ [p]) (upd H p (.dK kvs)) (μ ++ [.dct kus]) :=
  Stp.new hm np ⟨kvs, upd_same, r.keys, (r.mono (TX.new np) (Ext.snoc ρ p)).vals⟩
theorem putD {μ : Mem} (hm : RepM K H ρ μ) {i : Nat} {a : Addr} {kus kus' : List (Key × U)} {kvs' : List (Key × V)} (e : ρ[i]? = some a) (h : μ[i]? = some (.dct kus)) (r : RepKV K H ρ kus' kvs') : Stp K ρ H ρ (upd H a (.dK kvs')) (μ.set i (.dct kus')) := by
  have t : TX H (upd H a (.dK kvs')) := (hm.get e h).tx rfl
  exact Stp.put hm e h rfl ⟨kvs', upd_same, r.keys, (r.mono t (Ext.refl _)).vals⟩
theorem putL {μ : Mem} (hm : RepM K H ρ μ) {i : Nat} {a : Addr} {us us' : List U} {vs' : List V} (e : ρ[i]? = some a) (h : μ[i]? = some (.lst us)) (r : RepVs K H ρ us' vs') : Stp K ρ H ρ (upd H a (.lst vs')) (μ.set i (.lst us')) := by
  have t : TX H (upd H a (.lst vs')) := (hm.get e h).tx rfl
  exact Stp.put hm e h rfl ⟨vs', upd_same, r.mono t (Ext.refl _)⟩
end
def keyU : U → Option Key
  | .int i => some (.inl i)
  | .str x => some (.inr x)
  | _ => none
theorem keyU_ok {K : PySem.W.Frag} {H : Hp} {ρ : List Addr} {u : U} {v : V} {k : Key} (r : RepV K H ρ u v) (e : keyU u = some k) : v = kV k := by
  cases r with
  | int => cases e; rfl
  | str _ => cases e; rfl
  | _ => cases e

section
variable {X : Cx} {W : WX} {k : Nat}
/-! ### subscripts -/
def opt {α : Type} (o : Option α) (μ : Mem) : Res α := match o with
  | some a => .ok a μ
  | none => .bad
def dctU (μ : Mem) : U → Option (List (Key × U))
  | .ref i => match μ[i]? with
    | some (.dct kus) => some kus
    | some (.lst _) => none
    | some (.fdc _) => none
    | some (.dtt _) => none
    | some (.fdt _) => none
    | some (.obj _ _) => none
    | none => none
  | _ => none
def ixU (u w : U) (μ : Mem) : Res U := match dctU μ u with
  | some kus => match keyU w with
    | some k => opt (valU kus k) μ
    | none => .bad
  | none => match u, w with
    | .str z, .int i => if z.length ≤ lim then opt ((atI z.cps.toList i).map fun c => .str ⟨#[c]⟩) μ else .bad
    | u, .int i => match seqU μ u with
      | some us => opt (atI us i) μ
      | none => .bad
    | _, _ => .bad
theorem RepVs.atI {K : PySem.W.Frag} {H : Hp} {ρ : List Addr} {us : List U} {vs : List V} {i : Int} {u : U} (r : RepVs K H ρ us vs) (e : atI us i = some u) : ∃ v, L2.atI vs i = some v ∧ RepV K H ρ u v := by
  unfold L2.atI at *
  rw [← r.length]
  obtain ⟨j, h1, h2⟩ := Option.bind_eq_some_iff.mp e
  obtain ⟨v, q, w⟩ := r.get h2
  exact ⟨v, Option.bind_eq_some_iff.mpr ⟨j, h1, q⟩, w⟩
theorem strOk_sign {z : Str} {i : Int} {c : Nat} (h : PyData.strOk z = true) (e : L2.atI z.cps.toList i = some c) : PyData.strOk ⟨#[c]⟩ = true := by
  unfold L2.atI at e
  obtain ⟨j, _, h2⟩ := Option.bind_eq_some_iff.mp e
  have hc : c ∈ z.cps := by
    have := List.mem_of_getElem? h2
    exact Array.mem_toList_iff.mp this
  unfold PyData.strOk at *
  rw [Array.all_eq_true'] at *
  intro x hx
  have : x = c := by simpa using hx
  subst this
  exact h x hc
theorem ix_ok {ρ : List Addr} {μ : Mem} {σ : L2.St} {H : Hp} {u w : U} {x y : V} {Q : VK} (hm : RepM X.K H ρ μ) (ru : RepV X.K H ρ u x) (rw' : RepV X.K H ρ w y) (hd : dctU μ u = none) (h : Post X W σ relV ρ H (ixU u w μ) Q) : IxW X x y H Q := by
  unfold ixU at h
  rw [hd] at h
  simp only at h
  split at h
  · rename_i z i
    cases ru with
    | str hz =>
      cases rw'
      split at h
      · cases e : L2.atI z.cps.toList i with
        | none => rw [e] at h; exact h.elim
        | some c =>
          rw [e] at h
          exact ⟨_, ix_str, z, i, c, rfl, rfl, lim_le (by assumption), e, h.ok (Stp.refl hm) (.str (strOk_sign hz e))⟩
      · exact h.elim
  · rename_i i _
    cases rw'
    cases e : seqU μ u with
    | none => rw [e] at h; exact h.elim
    | some us =>
      rw [e] at h
      obtain ⟨a, vs, rfl, q, r⟩ := seqU_ok hm ru e
      simp only at h
      cases e2 : L2.atI us i with
      | none => rw [e2] at h; exact h.elim
      | some z =>
        rw [e2] at h
        obtain ⟨v, q2, r2⟩ := r.atI e2
        have qq := h.ok (Stp.refl hm) r2
        rcases q with q | q
        · exact ⟨_, ix_list, a, vs, i, v, rfl, rfl, q, q2, qq⟩
        · exact ⟨_, ix_tup, a, vs, i, v, rfl, rfl, q, q2, qq⟩
  · exact h.elim
theorem dget_ok {ρ : List Addr} {μ : Mem} {σ : L2.St} {H : Hp} {u w : U} {x y : V} {Q : VK} {kus : List (Key × U)} (hm : RepM X.K H ρ μ) (ru : RepV X.K H ρ u x) (rw' : RepV X.K H ρ w y) (hd : dctU μ u = some kus) (h : Post X W σ relV ρ H (ixU u w μ) Q) :
    ∃ a v, x = .ref a ∧ DGet H a y (some v) ∧ Q v H := by
  unfold ixU at h
  rw [hd] at h
  simp only at h
  cases ek : keyU w with
  | none => rw [ek] at h; exact h.elim
  | some k =>
    rw [ek] at h
    simp only at h
    cases ev : valU kus k with
    | none => rw [ev] at h; exact h.elim
    | some z =>
      rw [ev] at h
      cases ru with
      | ref hr =>
        rename_i i a
        have e1 : μ[i]? = some (.dct kus) := by
          unfold dctU at hd
          simp only at hd
          split at hd
          all_goals first
            | (cases hd; assumption)
            | (cases hd; done)
        obtain ⟨kvs, q1, r1⟩ := dct_of hm hr e1
        obtain ⟨v, q2, r2⟩ := r1.val.1 z ev
        refine ⟨a, v, rfl, ?_, h.ok (Stp.refl hm) r2⟩
        rw [keyU_ok rw' ek, ← q2]
        exact DGet.k q1
      | _ => simp [dctU] at hd
theorem ce_sub {a b : Expr} {ma mb : FE} {pos : Pos} (G : Good X W (k + 40)) (ha : CE X W a ma) (hb : CE X W b mb) (hp : PlainIx b := by exact fun _ _ => rfl) (hn : NoSl b := by exact fun _ _ => rfl) : CE X W (.Subscript a b pos) (fOp ixU ma mb) := by
  intro ρ μ s σ H Q hs hm h
  by_cases hd : ∃ u μ1 w μ2 kus, ma s μ = .ok u μ1 ∧ mb s μ1 = .ok w μ2 ∧ dctU μ2 u = some kus
  · obtain ⟨u0, μ10, w0, μ20, kus, e1, e2, e3⟩ := hd
    refine ⟨_, pe_dget G.hu pe_w pe_w hn, ?_⟩
    unfold fOp at h
    rw [e1] at h
    refine ha ρ μ s σ H _ hs hm ?_
    rw [e1]
    intro x H1 ρ1 t1 r1
    have h1 : Post X W σ relV ρ H ((mb s μ10).bind fun w μ2 => ixU u0 w μ2) Q := h
    refine hb ρ1 μ10 s σ H1 _ (t1.s hs) t1.mem ?_
    rw [e2] at h1 ⊢
    intro y H2 ρ2 t2 r2
    have h2 : Post X W σ relV ρ H (ixU u0 w0 μ20) Q := h1
    refine dget_ok (W := W) (σ := σ) t2.mem (t2.v r1) r2 e3 ?_
    generalize ixU u0 w0 μ20 = z at h2
    cases z with
    | ok c m2 => exact fun v2 H3 ρ3 t3 q3 => h2 v2 H3 ρ3 ((t1.trans t2).trans t3) q3
    | ex c m2 => exact fun cls H3 ρ3 t3 e => h2 cls H3 ρ3 ((t1.trans t2).trans t3) e
    | bad => exact h2
  · refine ⟨_, pe_ix ix_w pe_w pe_w hp, ?_⟩
    have hd' : ∀ u μ1 w μ2, ma s μ = .ok u μ1 → mb s μ1 = .ok w μ2 → dctU μ2 u = none := fun u μ1 w μ2 e1 e2 => by
      cases e : dctU μ2 u with
      | none => rfl
      | some kus => exact absurd ⟨u, μ1, w, μ2, kus, e1, e2, e⟩ hd
    unfold fOp at h
    refine ha ρ μ s σ H _ hs hm ?_
    cases e1 : ma s μ with
    | ex c m => rw [e1] at h; exact h
    | bad => rw [e1] at h; exact h
    | ok u0 μ10 =>
      rw [e1] at h
      intro x H1 ρ1 t1 r1
      have h1 : Post X W σ relV ρ H ((mb s μ10).bind fun w μ2 => ixU u0 w μ2) Q := h
      refine hb ρ1 μ10 s σ H1 _ (t1.s hs) t1.mem ?_
      cases e2 : mb s μ10 with
      | ex c m => rw [e2] at h1; exact fun cls H3 ρ3 t3 e => h1 cls H3 ρ3 (t1.trans t3) e
      | bad => rw [e2] at h1; exact h1
      | ok w0 μ20 =>
        rw [e2] at h1
        intro y H2 ρ2 t2 r2
        have h2 : Post X W σ relV ρ H (ixU u0 w0 μ20) Q := h1
        refine ix_ok (W := W) (σ := σ) t2.mem (t2.v r1) r2 (hd' u0 μ10 w0 μ20 e1 e2) ?_
        generalize ixU u0 w0 μ20 = z at h2
        cases z with
        | ok c m2 => exact fun v2 H3 ρ3 t3 q3 => h2 v2 H3 ρ3 ((t1.trans t2).trans t3) q3
        | ex c m2 => exact fun cls H3 ρ3 t3 e => h2 cls H3 ρ3 ((t1.trans t2).trans t3) e
        | bad => exact h2

/-! ### slices -/
abbrev FO := Slots → Mem → Res (Option Int)
def WO (X : Cx) (e : Option Expr) : TO := fun σ H Q => ∃ t, PO X e t ∧ t σ H Q
theorem po_w {e : Option Expr} : PO X e (WO X e) := ⟨fun pins s σ H Q I ⟨_, h, q⟩ => h.run pins s σ H Q I q⟩
def CO (X : Cx) (W : WX) (e : Option Expr) (m : FO) : Prop := ∀ ρ μ s σ H Q, RepS X.K H ρ s σ → RepM X.K H ρ μ → Post X W σ relO ρ H (m s μ) Q → WO X e σ H Q
def oNone : FO := fun _ μ => .ok none μ
def oSome (a : FE) : FO := fun s μ => (a s μ).bind fun u μ1 => match u with
  | .int i => .ok (some i) μ1
  | _ => .bad
theorem co_none : CO X W none oNone := fun ρ μ s σ H Q hs hm h => ⟨_, po_none, h.ok (Stp.refl hm) rfl⟩
theorem co_some {e : Expr} {me : FE} (he : CE X W e me) : CO X W (some e) (oSome me) := by
  intro ρ μ s σ H Q hs hm h
  refine ⟨_, po_some pe_w, ?_⟩
  refine he ρ μ s σ H _ hs hm (h.bind fun u μ1 x H1 ρ1 t1 r1 h1 => ?_)
  split at h1
  · cases r1
    exact ⟨_, rfl, h1.ok (Stp.refl t1.mem) rfl⟩
  · exact h1.elim
def SlW (X : Cx) : V → Option Int → Option Int → Hp → VK → Prop := fun x lo hi H Q => ∃ r, SlR X r ∧ r x lo hi H Q
theorem sl_w : SlR X (SlW X) := fun pins s σ H x v vl vu lo hi sl Q I rx hs pl pu ⟨_, h, q⟩ => h pins s σ H x v vl vu lo hi sl Q I rx hs pl pu q
def cutU {α : Type} (xs : List α) (lo hi : Option Int) : List α := (xs.drop (HT.sIx xs.length 0 lo)).take (HT.sIx xs.length xs.length hi - HT.sIx xs.length 0 lo)
theorem RepVs.cut {K : PySem.W.Frag} {H : Hp} {ρ : List Addr} {us : List U} {vs : List V} (r : RepVs K H ρ us vs) (lo hi : Option Int) : RepVs K H ρ (cutU us lo hi) (cutV vs lo hi) := by
  unfold cutU cutV
  rw [r.length]
  exact (r.drop _).take _
def slU (u : U) (lo hi : Option Int) (μ : Mem) : Res U := match u with
  | .str z => if z.length ≤ lim then .ok (.str (cutS z lo hi)) μ else .bad
  | .tup us => .ok (.tup (cutU us lo hi)) μ
  | u => match lstU μ u with
    | some us => .ok (.ref μ.length) (μ ++ [.lst (cutU us lo hi)])
    | none => .bad
def fSl (a : FE) (lo hi : FO) : FE := fun s μ => (a s μ).bind fun u μ1 => (lo s μ1).bind fun l μ2 => (hi s μ2).bind fun h μ3 => slU u l h μ3
theorem strOk_cut {z : Str} (h : PyData.strOk z = true) (lo hi : Option Int) : PyData.strOk (cutS z lo hi) = true := by
  unfold PyData.strOk at *
  rw [Array.all_eq_true'] at *
  intro x hx
  apply h x
  have h1 : x ∈ (z.cps.toList.drop (HT.sIx z.length 0 lo)).take (HT.sIx z.length z.length hi - HT.sIx z.length 0 lo) := by simpa [cutS] using hx
  exact Array.mem_toList_iff.mp (List.mem_of_mem_drop (List.mem_of_mem_take h1))
theorem cut_whole {α : Type} {xs : List α} {lo hi : Option Int} (h : HT.sIx xs.length 0 lo = 0 ∧ HT.sIx xs.length xs.length hi = xs.length) : cutU xs lo hi = xs := by
  unfold cutU
  rw [h.1, h.2, List.drop_zero, Nat.sub_zero, List.take_length]
theorem ce_slice {e : Expr} {lo hi : Option Expr} {me : FE} {ml mh : FO} {p2 pos : Pos} (he : CE X W e me) (hl : CO X W lo ml) (hh : CO X W hi mh) : CE X W (.Subscript e (.Slice lo hi none p2) pos) (fSl me ml mh) := by
  intro ρ μ s σ H Q hs hm h
  refine ⟨_, pe_slice sl_w pe_w po_w po_w, ?_⟩
  refine he ρ μ s σ H _ hs hm (h.bind fun u μ1 x H1 ρ1 t1 r1 h1 => ?_)
  refine hl ρ1 μ1 s σ H1 _ (t1.s hs) t1.mem (h1.bind fun a μ2 a' H2 ρ2 t2 r2 h2 => ?_)
  refine hh ρ2 μ2 s σ H2 _ (t2.s (t1.s hs)) t2.mem (h2.bind fun b μ3 b' H3 ρ3 t3 r3 h3 => ?_)
  cases r2
  cases r3
  have r4 := t3.v (t2.v r1)
  unfold slU at h3
  split at h3
  · cases r4 with
    | str hz =>
      split at h3
      · exact ⟨_, sl_str, _, rfl, lim_le (by assumption), h3.ok (Stp.refl t3.mem) (.str (strOk_cut hz _ _))⟩
      · exact h3.elim
  · cases r4 with
    | tup hs4 hr4 =>
      refine ⟨_, sl_tupA, _, _, rfl, hs4, fun c => ?_, fun c p np => h3.ok (Stp.temp t3.mem np) (newT np (hr4.cut _ _))⟩
      rw [← hr4.length] at c
      rw [cut_whole c] at h3
      exact h3.ok (Stp.refl t3.mem) (.tup hs4 hr4)
  · split at h3
    · rename_i us e1
      obtain ⟨p, vs, rfl, q1, r5⟩ := lstU_ok t3.mem r4 e1
      exact ⟨_, sl_list, _, _, rfl, q1, fun p np => h3.ok (newL t3.mem np (r5.cut _ _)) (refN t3.mem)⟩
    · exact h3.elim

/-! ### in -/
def inU (u w : U) (μ : Mem) : Option Bool := match w with
  | .str z => match u with
    | .str x => some (!(Builtin.Str.occurrences z x 0 z.length 1).isEmpty)
    | _ => none
  | w => match dctU μ w with
    | some kus => match keyU u with
      | some k => some (valU kus k).isSome
      | none => none
    | none => match seqU μ w with
      | some us => match datU μ u, toDs (refD μ 6) us with
        | some d, some ds => if d.depth ≤ 700 then some (ds.any fun y => PyData.eqv y d) else none
        | _, _ => none
      | none => none
def uIn (u w : U) (μ : Mem) : Res U := resB (inU u w μ) μ
def uNin (u w : U) (μ : Mem) : Res U := resB ((inU u w μ).map not) μ
def rInL (K : PySem.W.Frag) (neg : Bool) : R2 := fun x y H Q => ∃ d p xs ds, Dp K H x d ∧ y = .ref p ∧ (SqL K H p xs ∨ SqT K H p xs) ∧ DpAll K H xs ds ∧ d.canLay0 = true ∧ PyData.canLayAll0 ds = true ∧ d.depth ≤ 700 ∧ Q (.bl (if neg then !ds.any fun z => PyData.eqv z d else ds.any fun z => PyData.eqv z d)) H
theorem op_inL (hu : X.A.units + 800 < cLine) : OpR X (compareOp .In) (rInL X.K false) := by
  intro pins s σ H x y v u Q I rx ry h
  obtain ⟨d, p, xs, ds, hd, rfl, hq, he, sd, se, hl, q⟩ := h
  obtain ⟨as, r1⟩ := Dp.reads I d x v hd rx
  have hroom : X.A.units + 1 + min (PyData.depthAll ds) d.depth < cLine := by
    have h2 : min (PyData.depthAll ds) d.depth ≤ d.depth := Nat.min_le_right _ _
    omega
  rcases hq with hq | hq
  · obtain ⟨bs, r2⟩ := Dp.reads I (.list ds) (.ref p) u (.lst hq he) ry
    exact SeqAt.in_list_reads r2 r1 se sd hroom ⟨.bl _, H, I, rfl, q⟩
  · obtain ⟨bs, r2⟩ := Dp.reads I (.tuple ds) (.ref p) u (.tup hq he) ry
    exact SeqAt.in_tuple_reads r2 r1 se sd hroom ⟨.bl _, H, I, rfl, q⟩
theorem op_ninL (hu : X.A.units + 800 < cLine) : OpR X (compareOp .NotIn) (rInL X.K true) := by
  intro pins s σ H x y v u Q I rx ry h
  obtain ⟨d, p, xs, ds, hd, rfl, hq, he, sd, se, hl, q⟩ := h
  obtain ⟨as, r1⟩ := Dp.reads I d x v hd rx
  have hroom : X.A.units + 1 + min (PyData.depthAll ds) d.depth < cLine := by
    have h2 : min (PyData.depthAll ds) d.depth ≤ d.depth := Nat.min_le_right _ _
    omega
  rcases hq with hq | hq
  · obtain ⟨bs, r2⟩ := Dp.reads I (.list ds) (.ref p) u (.lst hq he) ry
    exact SeqAt.notIn_list_reads r2 r1 se sd hroom ⟨.bl _, H, I, rfl, q⟩
  · obtain ⟨bs, r2⟩ := Dp.reads I (.tuple ds) (.ref p) u (.tup hq he) ry
    exact SeqAt.notIn_tuple_reads r2 r1 se sd hroom ⟨.bl _, H, I, rfl, q⟩
/-- in a dict, by values -/
theorem op_inDc (hu : X.A.units + 1 < cLine) : OpR X (compareOp .In) (fun x y H Q => ∃ a o, y = .ref a ∧ DGet H a x o ∧ Q (.bl o.isSome) H) := by
  intro pins s σ H x y v u Q I rx ry h
  obtain ⟨a, o, rfl, g, q⟩ := h
  cases ry
  exact d_in hu I g rx fun s3 I3 => ⟨.bl o.isSome, H, I3, rfl, q⟩
theorem op_ninDc (hu : X.A.units + 1 < cLine) : OpR X (compareOp .NotIn) (fun x y H Q => ∃ a o, y = .ref a ∧ DGet H a x o ∧ Q (.bl (!o.isSome)) H) := by
  intro pins s σ H x y v u Q I rx ry h
  obtain ⟨a, o, rfl, g, q⟩ := h
  cases ry
  exact d_notIn hu I g rx fun s3 I3 => ⟨.bl (!o.isSome), H, I3, rfl, q⟩
theorem dct_at {K : PySem.W.Frag} {ρ : List Addr} {μ : Mem} {H : Hp} {u : U} {x : V} {kus : List (Key × U)} (hm : RepM K H ρ μ) (ru : RepV K H ρ u x) (hd : dctU μ u = some kus) : ∃ a kvs, x = .ref a ∧ H a = some (.dK kvs) ∧ RepKV K H ρ kus kvs := by
  cases ru with
  | ref hr =>
    rename_i i a
    have e1 : μ[i]? = some (.dct kus) := by
      unfold dctU at hd
      simp only at hd
      split at hd
      all_goals first
        | (cases hd; assumption)
        | (cases hd; done)
    obtain ⟨kvs, q1, r1⟩ := dct_of hm hr e1
    exact ⟨a, kvs, rfl, q1, r1⟩
  | _ => simp [dctU] at hd
def InV (K : PySem.W.Frag) (H : Hp) (x y : V) (b : Bool) : Prop :=
  (∃ d p xs ds, Dp K H x d ∧ y = .ref p ∧ (SqL K H p xs ∨ SqT K H p xs) ∧ DpAll K H xs ds ∧ d.canLay0 = true ∧ PyData.canLayAll0 ds = true ∧ d.depth ≤ 700 ∧ b = ds.any fun z => PyData.eqv z d) ∨
  (∃ a o, y = .ref a ∧ DGet H a x o ∧ b = o.isSome) ∨ ∃ i j, x = .str i ∧ y = .str j ∧ b = !(Builtin.Str.occurrences j i 0 j.length 1).isEmpty
theorem in_ok {K : PySem.W.Frag} {H : Hp} {ρ : List Addr} {μ : Mem} {u w : U} {x y : V} {b : Bool} (hm : RepM K H ρ μ) (ru : RepV K H ρ u x) (rw' : RepV K H ρ w y) (e : inU u w μ = some b) : InV K H x y b := by
  have main : ∀ w' : U, w' = w → (match dctU μ w' with
    | some kus => match keyU u with
      | some k => some (valU kus k).isSome
      | none => none
    | none => match seqU μ w' with
      | some us => match datU μ u, toDs (refD μ 6) us with
        | some d, some ds => if d.depth ≤ 700 then some (ds.any fun y => PyData.eqv y d) else none
        | _, _ => none
      | none => none) = some b → InV K H x y b := by
    intro w' ew h
    subst ew
    cases hd : dctU μ w' with
    | some kus =>
      rw [hd] at h
      simp only at h
      obtain ⟨a, kvs, rfl, q1, r1⟩ := dct_at hm rw' hd
      cases ek : keyU u with
      | none => rw [ek] at h; cases h
      | some k =>
        rw [ek] at h
        cases h
        refine .inr (.inl ⟨a, valV kvs k, rfl, ?_, ?_⟩)
        · rw [keyU_ok ru ek]; exact DGet.k q1
        · cases ev : valU kus k with
          | none => rw [r1.val.2 ev]; rfl
          | some z => obtain ⟨v, q2, _⟩ := r1.val.1 z ev; rw [q2]; rfl
    | none =>
      rw [hd] at h
      simp only at h
      cases es : seqU μ w' with
      | none => rw [es] at h; cases h
      | some us =>
        rw [es] at h
        simp only at h
        obtain ⟨a, vs, rfl, q, r⟩ := seqU_ok hm rw' es
        cases e1 : datU μ u with
        | none => rw [e1] at h; cases h
        | some d =>
          cases e2 : toDs (refD μ 6) us with
          | none => rw [e1, e2] at h; cases h
          | some ds =>
            rw [e1, e2] at h
            simp only at h
            obtain ⟨a1, a2⟩ := datU_ok hm ru e1
            obtain ⟨b1, b2⟩ := toDs_ok (refD_ok hm 6) us vs ds r e2
            split at h
            · cases h
              exact .inl ⟨d, a, vs, ds, a1, rfl, q, b1, a2, b2, by assumption, rfl⟩
            · cases h
  cases w with
  | str z =>
    cases rw'
    cases u with
    | str s =>
      cases ru
      simp only [inU, Option.some.injEq] at e
      exact .inr (.inr ⟨s, z, rfl, rfl, e.symm⟩)
    | _ => simp [inU] at e
  | non => exact main _ rfl e
  | bl b => exact main _ rfl e
  | int b => exact main _ rfl e
  | tup b => exact main _ rfl e
  | ref b => exact main _ rfl e
  | frl b => exact main _ rfl e
theorem os_in (G : Good X W (k + 40)) : OpS X W (compareOp .In) uIn := by
  intro ρ μ σ H u w x y Q hm ru rw' h
  unfold uIn at h
  cases e : inU u w μ with
  | none => rw [e] at h; exact h.elim
  | some b =>
    rw [e] at h
    have q := h.ok (Stp.refl hm) (RepV.bl (b := b))
    rcases in_ok hm ru rw' e with ⟨d, p, xs, ds, a1, a2, a3, a4, a5, a6, a7, rfl⟩ | ⟨a, o, a1, a2, rfl⟩ | ⟨i, j, a1, a2, rfl⟩
    · exact ⟨_, op_inL G.un, d, p, xs, ds, a1, a2, a3, a4, a5, a6, a7, q⟩
    · exact ⟨_, op_inDc G.hu, a, o, a1, a2, q⟩
    · exact ⟨_, op_in_str, i, j, a1, a2, q⟩
theorem os_nin (G : Good X W (k + 40)) : OpS X W (compareOp .NotIn) uNin := by
  intro ρ μ σ H u w x y Q hm ru rw' h
  unfold uNin at h
  cases e : inU u w μ with
  | none => rw [e] at h; exact h.elim
  | some b =>
    rw [e] at h
    have q := h.ok (Stp.refl hm) (RepV.bl (b := !b))
    rcases in_ok hm ru rw' e with ⟨d, p, xs, ds, a1, a2, a3, a4, a5, a6, a7, rfl⟩ | ⟨a, o, a1, a2, rfl⟩ | ⟨i, j, a1, a2, rfl⟩
    · exact ⟨_, op_ninL G.un, d, p, xs, ds, a1, a2, a3, a4, a5, a6, a7, q⟩
    · exact ⟨_, op_ninDc G.hu, a, o, a1, a2, q⟩
    · exact ⟨_, op_notin_str, i, j, a1, a2, q⟩

/-! ### isinstance of a built-in class -/
def tyU (μ : Mem) : U → Option String
  | .non => some "NoneType"
  | .bl _ => some "bool"
  | .int _ => some "int"
  | .str _ => some "str"
  | .tup _ => some "tuple"
  | .ref i => match μ[i]? with
    | some (.lst _) => some "list"
    | some (.dct _) => some "dict"
    | some (.fdc _) => none
    | some (.dtt _) => none
    | some (.fdt _) => none
    | some (.obj _ _) => none
    | none => none
  | .frl _ => some "list"
theorem tyU_ok {K : PySem.W.Frag} {H : Hp} {ρ : List Addr} {μ : Mem} (hm : RepM K H ρ μ) {u : U} {v : V} {t : String} (r : RepV K H ρ u v) (e : tyU μ u = some t) : TyX K H v (.type t) := by
  cases r with
  | non => cases e; exact .base .non
  | bl => cases e; exact .base (.bl _)
  | int => cases e; exact .base (.int _)
  | str _ => cases e; exact .base (.str _)
  | tup hs _ =>
    cases e
    rcases hs with (h | ⟨o, h⟩) | ⟨o, its, n, h, c, _⟩
    · exact .base (.tup h)
    · exact .fTuple h
    · exact .kTuple h c
  | ref hr =>
    obtain ⟨c, hc, rc⟩ := hm.at hr
    simp only [tyU, hc] at e
    cases c with
    | lst us => obtain ⟨vs, q, _⟩ := rc; cases e; exact .base (.lst q)
    | dct us => obtain ⟨vs, q, _⟩ := rc; cases e; exact .base (.dK q)
    | _ => cases e
  | frl hs _ =>
    cases e
    rcases hs with ⟨o, h⟩ | ⟨o, its, n, h, c, _⟩
    · exact .base (.frz h)
    · exact .kList h c
def isTy (T : String) (t : String) : Bool := t == T || (T == "int" && t == "bool")
def fIsi (T : String) (a : FE) : FE := fun s μ => (a s μ).bind fun u μ1 => match tyU μ1 u with
  | some t => .ok (.bl (isTy T t)) μ1
  | none => .bad
theorem kitK {K : PySem.W.Frag} {T : String} (hT : ∀ t ∈ ["NoneType", "bool", "int", "str", "tuple", "list", "dict"], kitB t T = some (isTy T t)) {μ : Mem} {u : U} {t : String} (e : tyU μ u = some t) : PySem.W.kitOne K (.type t) (.type T) = some (isTy T t) := by
  apply kit_ty
  apply hT
  cases u with
  | ref i =>
    simp only [tyU] at e
    split at e <;> first | (cases e; simp) | cases e
  | _ => cases e; simp
theorem ce_isi {T : String} {x : Str} {a : Expr} {ma : FE} {p p2 pos : Pos} (hT : ∀ t ∈ ["NoneType", "bool", "int", "str", "tuple", "list", "dict"], kitB t T = some (isTy T t)) (ha : CE X W a ma)
    (hT2 : PE X (.Name x p2) (tC (.ty T)))
    (hp : ∀ {r : List V → Hp → VK → Prop} {t : TA}, CallR X (.builtin "isinstance") r → PA X [a, .Name x p2] t → PE X (.Call (.Name "isinstance" p) [a, .Name x p2] [] pos) (tCB r t))
    (hs1 : starEach [a, .Name x p2] X.env = (false, eval a X.env) :: starEach [.Name x p2] X.env := by rfl) (hs2 : starEach [.Name x p2] X.env = (false, eval (.Name x p2) X.env) :: starEach [] X.env := by rfl) :
    CE X W (.Call (.Name "isinstance" p) [a, .Name x p2] [] pos) (fIsi T ma) := by
  intro ρ μ s σ H Q hs hm h
  refine ⟨_, hp call_isi (pa_cons pe_w (pa_cons hT2 pa_nil hs2) hs1), ?_⟩
  refine ha ρ μ s σ H _ hs hm (h.bind fun u μ1 v H1 ρ1 t1 r1 h1 => ?_)
  cases e : tyU μ1 u with
  | none => rw [e] at h1; exact h1.elim
  | some t =>
    rw [e] at h1
    exact ⟨v, .ty T, .type t, .type T, isTy T t, rfl, .ty T, tyU_ok t1.mem r1 e, kitK hT e, h1.ok (Stp.refl t1.mem) .bl⟩

/-! ### methods of lists -/
def MtW (X : Cx) (id : String) : V → List V → Hp → VK → Prop := fun x vs H Q => ∃ r, MtR X id r ∧ r x vs H Q
theorem mt_w {id : String} : MtR X id (MtW X id) := fun pins s σ H x xs v us Q I rx rxs ⟨_, h, q⟩ => h pins s σ H x xs v us Q I rx rxs q
def fMt (g : U → List U → Mem → Res U) (o : FE) (a : FA) : FE := fun s μ => (o s μ).bind fun u μ1 => (a s μ1).bind fun us μ2 => g u us μ2
/-- the receiver is known to be a list ahead of the arguments -/
def fMtL (g : U → List U → Mem → Res U) (o : FE) (a : FA) : FE := fun s μ => (o s μ).bind fun u μ1 => match lstU μ1 u with
  | some _ => (a s μ1).bind fun us μ2 => g u us μ2
  | none => .bad
def MtS (X : Cx) (W : WX) (id : String) (g : U → List U → Mem → Res U) : Prop := ∀ ρ μ σ H u us x vs Q, RepM X.K H ρ μ → RepV X.K H ρ u x → RepVs X.K H ρ us vs → Post X W σ relV ρ H (g u us μ) Q → MtW X id x vs H Q
theorem ce_mtL {id : String} {name : Str} {o e : Expr} {es : List Expr} {mo : FE} {ma : FA} {g : U → List U → Mem → Res U} {apos cpos : Pos} (hg : MtS X W id g) (ho : CE X W o mo) (ha : CA X W (e :: es) ma)
    (hp : ∀ {r : V → List V → Hp → VK → Prop} {to : TE} {t : TA}, MtR X id r → PE X o to → PA X (e :: es) t → PE X (.Call (.Attribute o name apos) (e :: es) [] cpos) (tBM X.K "list" r to t)) : CE X W (.Call (.Attribute o name apos) (e :: es) [] cpos) (fMtL g mo ma) := by
  intro ρ μ s σ H Q hs hm h
  refine ⟨_, hp mt_w pe_w pa_w, ?_⟩
  refine ho ρ μ s σ H _ hs hm (h.bind fun u μ1 x H1 ρ1 t1 r1 h1 => ?_)
  split at h1
  · rename_i us e
    obtain ⟨a, vs, rfl, q, _⟩ := lstU_ok t1.mem r1 e
    refine ⟨.inl ⟨rfl, vs, q⟩, ?_⟩
    exact ha ρ1 μ1 s σ H1 _ (t1.s hs) t1.mem (h1.bind fun us μ2 vs H2 ρ2 t2 r2 h2 => hg ρ2 μ2 σ H2 u us _ vs Q t2.mem (t2.v r1) r2 h2)
  · exact h1.elim
theorem ce_mtL0 {id : String} {name : Str} {o : Expr} {mo : FE} {g : U → List U → Mem → Res U} {apos cpos : Pos} (hg : MtS X W id g) (ho : CE X W o mo)
    (hp : ∀ {r : V → List V → Hp → VK → Prop} {to : TE}, MtR X id r → PE X o to → PE X (.Call (.Attribute o name apos) [] [] cpos) (tBM0 X.K "list" r to)) : CE X W (.Call (.Attribute o name apos) [] [] cpos) (fMtL g mo aNil) := by
  intro ρ μ s σ H Q hs hm h
  refine ⟨_, hp mt_w pe_w, ?_⟩
  refine ho ρ μ s σ H _ hs hm (h.bind fun u μ1 x H1 ρ1 t1 r1 h1 => ?_)
  split at h1
  · rename_i us e
    obtain ⟨a, vs, rfl, q, _⟩ := lstU_ok t1.mem r1 e
    exact ⟨.inl ⟨rfl, vs, q⟩, hg ρ1 μ1 σ H1 u [] _ [] Q t1.mem r1 .nil h1⟩
  · exact h1.elim
def gAppend (u : U) (us : List U) (μ : Mem) : Res U := match u, us with
  | .ref i, [w] => match μ[i]? with
    | some (.lst xs) => if xs.length < lim then .ok .non (μ.set i (.lst (xs ++ [w]))) else .bad
    | _ => .bad
  | _, _ => .bad
theorem gs_append : MtS X W "list.append" gAppend := by
  intro ρ μ σ H u us x vs Q hm ru rus h
  unfold gAppend at h
  split at h
  · split at h
    · rename_i e
      split at h
      · cases ru with
        | ref hr =>
          cases rus with
          | cons r1 r2 =>
            cases r2
            obtain ⟨ws, q, rr⟩ := lst_of hm hr e
            exact ⟨_, mt_append, _, ws, _, rfl, rfl, q, by rw [← rr.length]; exact lim_lt (by assumption), h.ok (putL hm hr e (rr.append (.one r1))) .non⟩
      · exact h.elim
    · exact h.elim
  · exact h.elim
def gExtend (u : U) (us : List U) (μ : Mem) : Res U := match u, us with
  | .ref i, [.ref j] => match μ[i]?, μ[j]? with
    | some (.lst xs), some (.lst ys) => if xs.length + ys.length ≤ lim then .ok .non (μ.set i (.lst (xs ++ ys))) else .bad
    | _, _ => .bad
  | _, _ => .bad
theorem gs_extend : MtS X W "list.extend" gExtend := by
  intro ρ μ σ H u us x vs Q hm ru rus h
  unfold gExtend at h
  split at h
  · split at h
    · rename_i e e2
      split at h
      · cases ru with
        | ref hr =>
          cases rus with
          | cons r1 r2 =>
            cases r2
            cases r1 with
            | ref hr2 =>
              obtain ⟨ws, q, rr⟩ := lst_of hm hr e
              obtain ⟨zs, q2, rr2⟩ := lst_of hm hr2 e2
              exact ⟨_, mt_extend, _, _, ws, zs, rfl, rfl, q, q2, by rw [← rr.length, ← rr2.length]; exact lim_le (by assumption), h.ok (putL hm hr e (rr.append rr2)) .non⟩
      · exact h.elim
    · exact h.elim
  · exact h.elim
theorem RepVs.dropLast {K : PySem.W.Frag} {H : Hp} {ρ : List Addr} {us : List U} {vs : List V} (r : RepVs K H ρ us vs) : RepVs K H ρ us.dropLast vs.dropLast := by
  rw [List.dropLast_eq_take, List.dropLast_eq_take, r.length]
  exact r.take _
def gPop (u : U) (us : List U) (μ : Mem) : Res U := match u, us with
  | .ref i, [] => match μ[i]? with
    | some (.lst xs) => match xs[xs.length - 1]? with
      | some w => .ok w (μ.set i (.lst xs.dropLast))
      | none => .bad
    | _ => .bad
  | _, _ => .bad
theorem gs_pop : MtS X W "list.pop" gPop := by
  intro ρ μ σ H u us x vs Q hm ru rus h
  unfold gPop at h
  split at h
  · split at h
    · rename_i xs e
      split at h
      · rename_i w e2
        cases ru with
        | ref hr =>
          cases rus
          obtain ⟨ws, q, rr⟩ := lst_of hm hr e
          obtain ⟨z, q2, r2⟩ := rr.get e2
          have t := putL hm hr e rr.dropLast
          exact ⟨_, mt_pop, _, ws, z, rfl, rfl, q, by rw [← rr.length]; exact q2, h.ok t (t.v r2)⟩
      · exact h.elim
    · exact h.elim
  · exact h.elim
theorem RepVs.eraseIdx {K : PySem.W.Frag} {H : Hp} {ρ : List Addr} : ∀ {us : List U} {vs : List V} (n : Nat), RepVs K H ρ us vs → RepVs K H ρ (us.eraseIdx n) (vs.eraseIdx n)
  | _, _, _, .nil => .nil
  | _, _, 0, .cons _ r => r
  | _, _, n + 1, .cons h r => .cons h (RepVs.eraseIdx n r)
def gPopAt (u : U) (us : List U) (μ : Mem) : Res U := match u, us with
  | .ref i, [.int n] => match μ[i]? with
    | some (.lst xs) => if -(2 ^ 63) ≤ n ∧ n < 2 ^ 63 then match seqIndex? n xs.length with
      | some j => match xs[j]? with
        | some w => .ok w (μ.set i (.lst (xs.eraseIdx j)))
        | none => .bad
      | none => .bad
      else .bad
    | _ => .bad
  | _, _ => .bad
theorem gs_popAt : MtS X W "list.pop" gPopAt := by
  intro ρ μ σ H u us x vs Q hm ru rus h
  unfold gPopAt at h
  split at h
  · split at h
    · rename_i xs e
      split at h
      · rename_i hz
        split at h
        · rename_i j ej
          split at h
          · rename_i w e2
            cases ru with
            | ref hr =>
              cases rus with
              | cons r1 r0 =>
                cases r0
                cases r1
                obtain ⟨ws, q, rr⟩ := lst_of hm hr e
                obtain ⟨z, q2, r2⟩ := rr.get e2
                have t := putL hm hr e (rr.eraseIdx j)
                exact ⟨_, mt_popAt, _, ws, _, j, z, rfl, rfl, q, hz.1, hz.2, by rw [← rr.length]; exact ej, q2, h.ok t (t.v r2)⟩
          · exact h.elim
        · exact h.elim
      · exact h.elim
    · exact h.elim
  · exact h.elim
end
end Dg
/-! Dg5: statements, loops, comprehensions, calls of defs, a def by its body. -/
namespace Dg
open PySem PySem.Spec PyProof.Rows L2 RZ

/-! ### what is wanted behind a statement -/
def PostS (X : Cx) (W : WX) (ρ : List Addr) (H : Hp) (o : Out) (D : Ends) : Prop := match o with
  | .nx s' μ' => ∀ σ' H' ρ', Stp X.K ρ H ρ' H' μ' → RepS X.K H' ρ' s' σ' → D.nx σ' H'
  | .rt u μ' => ∀ v H' ρ', Stp X.K ρ H ρ' H' μ' → RepV X.K H' ρ' u v → D.rt v H'
  | .bk s' μ' => ∀ σ' H' ρ', Stp X.K ρ H ρ' H' μ' → RepS X.K H' ρ' s' σ' → D.bk σ' H'
  | .ct s' μ' => ∀ σ' H' ρ', Stp X.K ρ H ρ' H' μ' → RepS X.K H' ρ' s' σ' → D.ct σ' H'
  | .ex c s' μ' => ∀ cls σ' H' ρ', Stp X.K ρ H ρ' H' μ' → RepS X.K H' ρ' s' σ' → X.mg c = some cls → W cls none σ' H'
  | .bad => False
def ofR {α : Type} (r : Res α) (s : Slots) (k : α → Mem → Out) : Out := match r with
  | .ok a μ => k a μ
  | .ex c μ => .ex c s μ
  | .bad => .bad
theorem PostS.from {X : Cx} {W : WX} {ρ ρ1 : List Addr} {H H1 : Hp} {μ1 : Mem} {o : Out} {D : Ends} (t : Stp X.K ρ H ρ1 H1 μ1) (h : PostS X W ρ H o D) : PostS X W ρ1 H1 o D := by
  cases o with
  | nx s m => exact fun σ' H' ρ' t' r => h σ' H' ρ' (t.trans t') r
  | rt u m => exact fun σ' H' ρ' t' r => h σ' H' ρ' (t.trans t') r
  | bk s m => exact fun σ' H' ρ' t' r => h σ' H' ρ' (t.trans t') r
  | ct s m => exact fun σ' H' ρ' t' r => h σ' H' ρ' (t.trans t') r
  | ex c s m => exact fun cls σ' H' ρ' t' r e => h cls σ' H' ρ' (t.trans t') r e
  | bad => exact h
theorem PostS.bind {α β : Type} {X : Cx} {W : WX} {σ : L2.St} {rel : RelT α β} {ρ : List Addr} {H : Hp} {r : Res α} {s : Slots} {k : α → Mem → Out} {D : Ends} {Q1 : β → Hp → Prop} (hs : RepS X.K H ρ s σ)
    (h : PostS X W ρ H (ofR r s k) D) (hk : ∀ a μ1 x H1 ρ1, Stp X.K ρ H ρ1 H1 μ1 → rel X.K H1 ρ1 a x → PostS X W ρ1 H1 (k a μ1) D → Q1 x H1) : Post X W σ rel ρ H r Q1 := by
  cases r with
  | ok a m =>
    intro v H' ρ' t q
    exact hk a m v H' ρ' t q (PostS.from t h)
  | ex c m => exact fun cls H' ρ' t e => h cls σ H' ρ' t (t.s hs) e
  | bad => exact h
/-- the same out, other ends behind -/
theorem PostS.ends {X : Cx} {W : WX} {ρ : List Addr} {H : Hp} {o : Out} {D D' : Ends} (h : PostS X W ρ H o D) (n : ∀ s m, o = .nx s m → PostS X W ρ H o D') (r : D'.rt = D.rt) (b : ∀ s m, o = .bk s m → PostS X W ρ H o D') (c : ∀ s m, o = .ct s m → PostS X W ρ H o D') : PostS X W ρ H o D' := by
  cases o with
  | nx s m => exact n s m rfl
  | rt u m => exact fun v H' ρ' t' q => by rw [r]; exact h v H' ρ' t' q
  | bk s m => exact b s m rfl
  | ct s m => exact c s m rfl
  | ex c s m => exact h
  | bad => exact h

def WS (X : Cx) (st : Stmt) : TS := fun D σ H => ∃ t, PS X st t ∧ t D σ H
theorem ps_w {X : Cx} {st : Stmt} : PS X st (WS X st) := ⟨fun pins s σ H D I ⟨_, h, q⟩ => h.run pins s σ H D I q⟩
def WSs (X : Cx) (st : List Stmt) : TS := fun D σ H => ∃ t, PSs X st t ∧ t D σ H
theorem pss_w {X : Cx} {st : List Stmt} : PSs X st (WSs X st) := ⟨fun pins s σ H D I ⟨_, h, q⟩ => h.run pins s σ H D I q⟩
def CS (X : Cx) (W : WX) (st : Stmt) (m : FS) : Prop := ∀ ρ μ s σ H D, RepS X.K H ρ s σ → RepM X.K H ρ μ → PostS X W ρ H (m s μ) D → WS X st D σ H
def CSs (X : Cx) (W : WX) (st : List Stmt) (m : FS) : Prop := ∀ ρ μ s σ H D, RepS X.K H ρ s σ → RepM X.K H ρ μ → PostS X W ρ H (m s μ) D → WSs X st D σ H

section
variable {X : Cx} {W : WX} {k : Nat}
def sNext : FS := fun s μ => .nx s μ
def sSeq (a b : FS) : FS := fun s μ => match a s μ with
  | .nx s1 μ1 => b s1 μ1
  | o => o
theorem css_nil : CSs X W [] sNext := fun ρ μ s σ H D hs hm h => ⟨_, pss_nil, h σ H ρ (Stp.refl hm) hs⟩
theorem css_cons {st : Stmt} {rest : List Stmt} {a b : FS} (ha : CS X W st a) (hb : CSs X W rest b) : CSs X W (st :: rest) (sSeq a b) := by
  intro ρ μ s σ H D hs hm h
  refine ⟨_, pss_cons ps_w pss_w, ?_⟩
  refine ha ρ μ s σ H _ hs hm ?_
  unfold sSeq at h
  cases e : a s μ with
  | nx s1 μ1 =>
    rw [e] at h
    intro σ' H' ρ' t r
    exact hb ρ' μ1 s1 σ' H' D r t.mem (PostS.from t h)
  | rt u m => rw [e] at h; exact h
  | bk u m => rw [e] at h; exact h
  | ct u m => rw [e] at h; exact h
  | ex c u m => rw [e] at h; exact h
  | bad => rw [e] at h; exact h
theorem css_one {st : Stmt} {a : FS} (ha : CS X W st a) : CSs X W [st] a := fun ρ μ s σ H D hs hm h => ⟨_, pss_one ps_w, ha ρ μ s σ H D hs hm h⟩
theorem cs_pass {pos : Pos} : CS X W (.Pass pos) sNext := fun ρ μ s σ H D hs hm h => ⟨_, ps_pass, h σ H ρ (Stp.refl hm) hs⟩
def sBrk : FS := fun s μ => .bk s μ
def sCnt : FS := fun s μ => .ct s μ
theorem cs_brk {pos : Pos} : CS X W (.Break pos) sBrk := fun ρ μ s σ H D hs hm h => ⟨_, ps_break, h σ H ρ (Stp.refl hm) hs⟩
theorem cs_cnt {pos : Pos} : CS X W (.Continue pos) sCnt := fun ρ μ s σ H D hs hm h => ⟨_, ps_continue, h σ H ρ (Stp.refl hm) hs⟩
def sExpr (a : FE) : FS := fun s μ => ofR (a s μ) s fun _ μ1 => .nx s μ1
theorem cs_expr {e : Expr} {me : FE} {pos : Pos} (he : CE X W e me) (hs0 : swapsWith e none pos.line X.env = pure false := by rfl) : CS X W (.Expr e pos) (sExpr me) := by
  intro ρ μ s σ H D hs hm h
  refine ⟨_, ps_expr pe_w hs0, ?_⟩
  exact he ρ μ s σ H _ hs hm (PostS.bind hs h fun u μ1 x H1 ρ1 t1 r1 h1 => h1 σ H1 ρ1 (Stp.refl t1.mem) (t1.s hs))
def sRet (a : FE) : FS := fun s μ => ofR (a s μ) s fun u μ1 => .rt u μ1
theorem cs_ret {e : Expr} {me : FE} {pos : Pos} (he : CE X W e me) : CS X W (.Return (some e) pos) (sRet me) := by
  intro ρ μ s σ H D hs hm h
  refine ⟨_, ps_ret pe_w, ?_⟩
  exact he ρ μ s σ H _ hs hm (PostS.bind hs h fun u μ1 x H1 ρ1 t1 r1 h1 => h1 x H1 ρ1 (Stp.refl t1.mem) r1)
def sRetN : FS := fun _ μ => .rt .non μ
theorem cs_retN {pos : Pos} : CS X W (.Return none pos) sRetN := fun ρ μ s σ H D hs hm h => ⟨_, ps_retN, h _ H ρ (Stp.refl hm) .non⟩
def sIf (t : FT) (a b : FS) : FS := fun s μ => ofR (t s μ) s fun c μ1 => match c with
  | true => a s μ1
  | false => b s μ1
theorem cs_if {c : Expr} {p q : List Stmt} {tc : FT} {a b : FS} {pos : Pos} (hc : CT X W c tc) (ha : CSs X W p a) (hb : CSs X W q b) : CS X W (.If c p q pos) (sIf tc a b) := by
  intro ρ μ s σ H D hs hm h
  refine ⟨_, ps_if pt_w pss_w pss_w, ?_⟩
  refine hc ρ μ s σ H _ hs hm (PostS.bind hs h fun b μ1 x H1 ρ1 t1 r1 h1 => ?_)
  cases r1
  cases b with
  | true => exact iteT (ha ρ1 μ1 s σ H1 D (t1.s hs) t1.mem h1)
  | false => exact iteF (hb ρ1 μ1 s σ H1 D (t1.s hs) t1.mem h1)

/-! ### targets -/
inductive Tgt where
  | one (i : Nat)
  | tup (is : List Nat)
def setAll : List Nat → List U → Slots → Slots
  | i :: is, u :: us, s => setAll is us (s.set i (some u))
  | _, _, s => s
def setT (g : Tgt) (u : U) (s : Slots) : Option Slots := match g, u with
  | .one i, u => some (s.set i (some u))
  | .tup is, .tup us => if us.length = is.length then some (setAll is us s) else none
  | _, _ => none
def WG (X : Cx) (tg : Expr) : TG := fun v σ H Q => ∃ t, PG X tg t ∧ t v σ H Q
theorem pg_w {tg : Expr} : PG X tg (WG X tg) := ⟨fun pins s σ H v u Q I r ⟨_, h, q⟩ => h.run pins s σ H v u Q I r q⟩
def inT (g : Tgt) (vs : List Nat) : Prop := match g with
  | .one i => i ∈ vs
  | .tup is => ∀ i ∈ is, i ∈ vs
/-- what is stored lies as the mirror's slots; only the slots of the target change -/
def CG (X : Cx) (tg : Expr) (g : Tgt) : Prop := ∀ ρ s σ H u v s' (Q : L2.St → Hp → Prop), RepS X.K H ρ s σ → RepV X.K H ρ u v → setT g u s = some s' →
  (∀ σ', RepS X.K H ρ s' σ' → (∀ vs : List Nat, inT g vs → wipe σ' vs = wipe σ vs) → Q σ' H) → WG X tg v σ H Q
theorem wipe_set {σ : L2.St} {i : Nat} {x : Option V} : ∀ {vs : List Nat}, i ∈ vs → wipe (σ.set i x) vs = wipe σ vs
  | v :: vs, h => by
    show (wipe (σ.set i x) vs).set v none = (wipe σ vs).set v none
    by_cases e : v = i
    · subst e
      by_cases hv : v ∈ vs
      · rw [wipe_set hv]
      · have key : ∀ (ws : List Nat), v ∉ ws → wipe (σ.set v x) ws = (wipe σ ws).set v x := by
          intro ws
          induction ws with
          | nil => intro _; rfl
          | cons w ws ih =>
            intro hw
            simp only [List.mem_cons, not_or] at hw
            show (wipe (σ.set v x) ws).set w none = ((wipe σ ws).set w none).set v x
            rw [ih hw.2]
            exact List.set_comm _ _ hw.1
        rw [key vs hv, List.set_set]
    · have hv : i ∈ vs := by
        rcases List.mem_cons.mp h with q | q
        · exact absurd q.symm e
        · exact q
      rw [wipe_set hv]
theorem wipe_wipe {σ : L2.St} : ∀ {vs ws : List Nat}, (∀ i ∈ ws, i ∈ vs) → wipe (wipe σ ws) vs = wipe σ vs
  | vs, [], _ => rfl
  | vs, w :: ws, h => by
    show wipe ((wipe σ ws).set w none) vs = wipe σ vs
    rw [wipe_set (h w (by simp)), wipe_wipe (ws := ws) fun i hi => h i (by simp [hi])]
theorem cg_one {i : Nat} {x : Str} {pos : Pos} (hN : X.N.Nodup) (hi : X.N[i]? = some x) (hx : Loc X.env.scope x) (hf : X.fn x = true ∨ X.env.scope.names.lookup x = some .local := by first | exact .inl rfl | exact .inr rfl | assumption) : CG X (.Name x pos) (.one i) := by
  intro ρ s σ H u v s' Q hs r e h
  refine ⟨_, pg_name hN hi hx hf, ?_⟩
  cases e
  exact h _ (hs.set r) fun vs hv => wipe_set hv
/-- several names -/
def WGs (X : Cx) (ts : List Expr) : TGs := fun vs σ H Q => ∃ t, PGs X ts t ∧ t vs σ H Q
theorem pgs_w {ts : List Expr} : PGs X ts (WGs X ts) := ⟨fun pins s σ H vs us Q I r ⟨_, h, q⟩ => h.run pins s σ H vs us Q I r q⟩
def CGs (X : Cx) (ts : List Expr) (is : List Nat) : Prop := ∀ ρ s σ H us vs (Q : L2.St → Hp → Prop), RepS X.K H ρ s σ → RepVs X.K H ρ us vs → us.length = is.length →
  (∀ σ', RepS X.K H ρ (setAll is us s) σ' → (∀ ws : List Nat, (∀ i ∈ is, i ∈ ws) → wipe σ' ws = wipe σ ws) → Q σ' H) → WGs X ts vs σ H Q
theorem cgs_nil : CGs X [] [] := by
  intro ρ s σ H us vs Q hs r hl h
  refine ⟨_, pgs_nil, ?_⟩
  cases r with
  | nil => exact ⟨rfl, h σ hs fun _ _ => rfl⟩
  | cons _ _ => simp at hl
theorem cgs_cons {e : Expr} {es : List Expr} {i : Nat} {is : List Nat} (h1 : CG X e (.one i)) (h2 : CGs X es is) (hs0 : (assignEach (e :: es) X.env).map (·.2) = assign e X.env :: (assignEach es X.env).map (·.2) := by rfl) : CGs X (e :: es) (i :: is) := by
  intro ρ s σ H us vs Q hs r hl h
  refine ⟨_, pgs_cons pg_w pgs_w hs0, ?_⟩
  cases r with
  | nil => simp at hl
  | cons r1 r2 =>
    refine ⟨_, _, rfl, ?_⟩
    refine h1 ρ s σ H _ _ _ _ hs r1 rfl fun σ' hs' hw => ?_
    refine h2 ρ _ σ' H _ _ Q hs' r2 (by simpa using hl) fun σ2 hs2 hw2 => ?_
    exact h σ2 hs2 fun ws hws => (hw2 ws fun j hj => hws j (by simp [hj])).trans (hw ws (hws i (by simp)))
theorem cg_tup {es : List Expr} {is : List Nat} {j : Nat} {pos : Pos} (hc : X.calm = true) (h : CGs X es is) (hn : (assignEach es X.env).length = is.length := by rfl) (hst : (assignEach es X.env).findIdx? (·.1) = none := by rfl) : CG X (.Tuple es j pos) (.tup is) := by
  intro ρ s σ H u v s' Q hs r e q
  refine ⟨_, pg_tup hc pgs_w hn hst, ?_⟩
  cases r with
  | tup hs1 hr1 =>
    simp only [setT] at e
    split at e
    · rename_i hl
      cases e
      exact ⟨_, _, rfl, hs1, by rw [← hr1.length]; exact hl, h ρ s σ H _ _ Q hs hr1 hl fun σ' hs' hw => q σ' hs' hw⟩
    · cases e
  | _ => simp [setT] at e
/-- x = e; a, b = e -/
def sAsg (g : Tgt) (a : FE) : FS := fun s μ => ofR (a s μ) s fun u μ1 => match setT g u s with
  | some s1 => .nx s1 μ1
  | none => .bad
theorem cs_asg {tg e : Expr} {g : Tgt} {me : FE} {pos : Pos} (he : CE X W e me) (hg : CG X tg g) (hp : ∀ {te : TE} {gt : TG}, PE X e te → PG X tg gt → PS X (.Assign [tg] e pos) (tAsg te gt)) : CS X W (.Assign [tg] e pos) (sAsg g me) := by
  intro ρ μ s σ H D hs hm h
  refine ⟨_, hp pe_w pg_w, ?_⟩
  refine he ρ μ s σ H _ hs hm (PostS.bind hs h fun u μ1 x H1 ρ1 t1 r1 h1 => ?_)
  cases es : setT g u s with
  | none => rw [es] at h1; exact h1.elim
  | some s1 =>
    rw [es] at h1
    exact hg ρ1 s σ H1 u x s1 _ (t1.s hs) r1 es fun σ' hs' _ => h1 σ' H1 ρ1 (Stp.refl t1.mem) hs'
theorem cs_set {i : Nat} {x : Str} {e : Expr} {me : FE} {pos pos' : Pos} (hN : X.N.Nodup) (hi : X.N[i]? = some x) (hx : Loc X.env.scope x) (he : CE X W e me) (hs0 : swapsWith e (some (.Name x pos')) pos.line X.env = pure false := by rfl)
    (hf : X.fn x = true ∨ X.env.scope.names.lookup x = some .local := by first | exact .inl rfl | exact .inr rfl | assumption) : CS X W (.Assign [.Name x pos'] e pos) (sAsg (.one i) me) := by
  intro ρ μ s σ H D hs hm h
  refine ⟨_, ps_set hN hi hx pe_w hs0 hf, ?_⟩
  exact he ρ μ s σ H _ hs hm (PostS.bind hs h fun u μ1 x H1 ρ1 t1 r1 h1 => h1 _ H1 ρ1 (Stp.refl t1.mem) ((t1.s hs).set r1))
/-- a, b = e1, e2 -/
def sPar (i j : Nat) (a b : FE) : FS := fun s μ => ofR (a s μ) s fun u μ1 => ofR (b s μ1) s fun w μ2 => .nx ((s.set i (some u)).set j (some w)) μ2

/-! ### o[i] = e, d[k] = e -/
def stU (o i u : U) (μ : Mem) : Option Mem := match o with
  | .ref r => match μ[r]? with
    | some (.lst xs) => match i with
      | .int n => match ixN xs.length n with
        | some j => some (μ.set r (.lst (xs.set j u)))
        | none => none
      | _ => none
    | some (.dct kus) => match keyU i with
      | some k => if kus.length < lim then some (μ.set r (.dct (putU kus k u))) else none
      | none => none
    | _ => none
  | _ => none
def sStore (o i a : FE) : FS := fun s μ => ofR (a s μ) s fun u μ1 => ofR (o s μ1) s fun x μ2 => ofR (i s μ2) s fun y μ3 => match stU x y u μ3 with
  | some μ4 => .nx s μ4
  | none => .bad
theorem cs_store {o i e : Expr} {mo mi me : FE} {pos pos' : Pos} (G : Good X W (k + 40)) (ho : CE X W o mo) (hi : CE X W i mi) (he : CE X W e me)
    (h1 : ∀ {to ti te : TE}, PE X o to → PE X i ti → PE X e te → PS X (.Assign [.Subscript o i pos'] e pos) (tAsg te (gSub to ti rSetL)))
    (h2 : ∀ {to ti te : TE}, PE X o to → PE X i ti → PE X e te → PS X (.Assign [.Subscript o i pos'] e pos) (sDPut to ti te)) : CS X W (.Assign [.Subscript o i pos'] e pos) (sStore mo mi me) := by
  intro ρ μ s σ H D hs hm h
  by_cases hd : ∃ u μ1 x μ2 y μ3 kus, me s μ = .ok u μ1 ∧ mo s μ1 = .ok x μ2 ∧ mi s μ2 = .ok y μ3 ∧ dctU μ3 x = some kus
  · obtain ⟨u, μ1, x, μ2, y, μ3, kus, e1, e2, e3, e4⟩ := hd
    refine ⟨_, h2 pe_w pe_w pe_w, ?_⟩
    unfold sStore at h
    rw [e1] at h
    refine he ρ μ s σ H _ hs hm ?_
    rw [e1]
    intro uv H1 ρ1 t1 r1
    refine ho ρ1 μ1 s σ H1 _ (t1.s hs) t1.mem ?_
    have g1 : PostS X W ρ H (ofR (mo s μ1) s fun x μ2 => ofR (mi s μ2) s fun y μ3 => match stU x y u μ3 with
      | some μ4 => .nx s μ4
      | none => .bad) D := h
    rw [e2] at g1 ⊢
    intro xv H2 ρ2 t2 r2
    refine hi ρ2 μ2 s σ H2 _ (t2.s (t1.s hs)) t2.mem ?_
    have g2 : PostS X W ρ H (ofR (mi s μ2) s fun y μ3 => match stU x y u μ3 with
      | some μ4 => .nx s μ4
      | none => .bad) D := g1
    rw [e3] at g2 ⊢
    intro yv H3 ρ3 t3 r3
    have g3 : PostS X W ρ H (match stU x y u μ3 with
      | some μ4 => .nx s μ4
      | none => .bad) D := g2
    have g4 := PostS.from ((t1.trans t2).trans t3) g3
    cases es : stU x y u μ3 with
    | none => rw [es] at g4; exact g4.elim
    | some μ4 =>
      rw [es] at g4
      have r2' := t3.v r2
      obtain ⟨a, kvs, rfl, q1, rk⟩ := dct_at t3.mem r2' e4
      cases r2' with
      | ref hr =>
        rename_i r
        have em : μ3[r]? = some (.dct kus) := by
          unfold dctU at e4
          simp only at e4
          split at e4
          all_goals first
            | (cases e4; assumption)
            | (cases e4; done)
        simp only [stU, em] at es
        cases ek : keyU y with
        | none => rw [ek] at es; cases es
        | some k =>
          rw [ek] at es
          simp only at es
          split at es
          · rename_i hz
            cases es
            have ru := (t3.v (t2.v r1))
            refine ⟨a, _, rfl, ?_, g4 σ _ ρ3 (putD t3.mem hr em (rk.put ru)) ?_⟩
            · rw [keyU_ok r3 ek]
              exact DPut.k q1 (by rw [rk.length]; exact lim_lt hz)
            · exact (putD t3.mem hr em (rk.put ru)).s (t3.s (t2.s (t1.s hs)))
          · cases es
      | tup _ _ => simp [dctU] at e4
      | frl _ _ => simp [dctU] at e4
  · refine ⟨_, h1 pe_w pe_w pe_w, ?_⟩
    unfold sStore at h
    refine he ρ μ s σ H _ hs hm ?_
    cases e1 : me s μ with
    | ex c m => rw [e1] at h; exact fun cls H' ρ' t e => h cls σ H' ρ' t (t.s hs) e
    | bad => rw [e1] at h; exact h
    | ok u μ1 =>
      rw [e1] at h
      intro uv H1 ρ1 t1 r1
      refine ho ρ1 μ1 s σ H1 _ (t1.s hs) t1.mem ?_
      have g1 : PostS X W ρ1 H1 (ofR (mo s μ1) s fun x μ2 => ofR (mi s μ2) s fun y μ3 => match stU x y u μ3 with
        | some μ4 => .nx s μ4
        | none => .bad) D := PostS.from t1 h
      cases e2 : mo s μ1 with
      | ex c m => rw [e2] at g1; exact fun cls H' ρ' t e => g1 cls σ H' ρ' t (t.s (t1.s hs)) e
      | bad => rw [e2] at g1; exact g1
      | ok x μ2 =>
        rw [e2] at g1
        intro xv H2 ρ2 t2 r2
        refine hi ρ2 μ2 s σ H2 _ (t2.s (t1.s hs)) t2.mem ?_
        have g2 : PostS X W ρ2 H2 (ofR (mi s μ2) s fun y μ3 => match stU x y u μ3 with
          | some μ4 => .nx s μ4
          | none => .bad) D := PostS.from t2 g1
        cases e3 : mi s μ2 with
        | ex c m => rw [e3] at g2; exact fun cls H' ρ' t e => g2 cls σ H' ρ' t (t.s (t2.s (t1.s hs))) e
        | bad => rw [e3] at g2; exact g2
        | ok y μ3 =>
          rw [e3] at g2
          intro yv H3 ρ3 t3 r3
          have g4 : PostS X W ρ3 H3 (match stU x y u μ3 with
            | some μ4 => .nx s μ4
            | none => .bad) D := PostS.from t3 g2
          cases es : stU x y u μ3 with
          | none => rw [es] at g4; exact g4.elim
          | some μ4 =>
            rw [es] at g4
            have r2' := t3.v r2
            unfold stU at es
            split at es
            · rename_i r
              split at es
              · rename_i xs em
                split at es
                · rename_i n
                  split at es
                  · rename_i j ej
                    cases es
                    cases r2' with
                    | ref hr =>
                      cases r3
                      obtain ⟨ws, q, rr⟩ := lst_of t3.mem hr em
                      have t4 := putL t3.mem hr em (rr.set (t3.v (t2.v r1)) j)
                      exact ⟨_, ws, n, j, rfl, rfl, q, by rw [← rr.length]; exact ej, g4 σ _ ρ3 t4 (t4.s (t3.s (t2.s (t1.s hs))))⟩
                  · cases es
                · cases es
              · rename_i kus em
                exact absurd ⟨u, μ1, .ref r, μ2, y, μ3, kus, e1, e2, e3, by simp only [dctU, em]⟩ hd
              · cases es
            · cases es

/-! ### x += e -/
def sAug (i : Nat) (f : Int → Int → Int) (a : FE) : FS := fun s μ => match s[i]? with
  | some (some (.int x)) => ofR (a s μ) s fun u μ1 => match u with
    | .int y => .nx (s.set i (some (.int (f x y)))) μ1
    | _ => .bad
  | _ => .bad
theorem cs_aug {i : Nat} {x : Str} {e : Expr} {me : FE} {op : Operator} {f : Int → Int → Int} {pos pos' : Pos} (hN : X.N.Nodup) (hi : X.N[i]? = some x) (hx : Loc X.env.scope x) (he : CE X W e me) (ho : PIp X op (ipI f))
    (hf : X.fn x = true ∨ X.env.scope.names.lookup x = some .local := by first | exact .inl rfl | exact .inr rfl | assumption)
    (hp : ∀ {te : TE}, PE X e te → PS X (.AugAssign (.Name x pos') op e pos) (L2.tAug i te (ipI f))) : CS X W (.AugAssign (.Name x pos') op e pos) (sAug i f me) := by
  intro ρ μ s σ H D hs hm h
  refine ⟨_, hp pe_w, ?_⟩
  unfold sAug at h
  split at h
  · rename_i z e1
    obtain ⟨v, q, r⟩ := hs.get i _ e1
    cases r
    refine ⟨_, q, ?_⟩
    refine he ρ μ s σ H _ hs hm (PostS.bind hs h fun u μ1 x H1 ρ1 t1 r1 h1 => ?_)
    split at h1
    · cases r1
      exact ⟨_, _, rfl, rfl, h1 _ H1 ρ1 (Stp.refl t1.mem) ((t1.s hs).set .int)⟩
    · exact h1.elim
  · exact h.elim

/-! ### while -/
def sWhile (t : FT) (b : FS) : Nat → FS
  | 0 => fun _ _ => .bad
  | n + 1 => fun s μ => ofR (t s μ) s fun c μ1 => match c with
    | false => .nx s μ1
    | true => match b s μ1 with
      | .nx s2 μ2 => sWhile t b n s2 μ2
      | .ct s2 μ2 => sWhile t b n s2 μ2
      | .bk s2 μ2 => .nx s2 μ2
      | o => o
theorem cs_while {c : Expr} {body : List Stmt} {tc : FT} {b : FS} {pos : Pos} (n : Nat) (G : Good X W k) (hc : CT X W c tc) (hb : CSs X W body b) : CS X W (.While c body [] pos) (sWhile tc b n) := by
  intro ρ μ s σ H D hs hm h
  refine ⟨_, ps_while G.po pt_w pss_w, ?_⟩
  refine ⟨fun m σ' H' => ∃ ρ' s' μ', RepM X.K H' ρ' μ' ∧ RepS X.K H' ρ' s' σ' ∧ PostS X W ρ' H' (sWhile tc b m s' μ') D, ⟨n, ρ, s, μ, hm, hs, h⟩, ?_⟩
  intro m σ' H' ⟨ρ', s', μ', hm', hs', h'⟩
  cases m with
  | zero => exact h'.elim
  | succ m =>
    refine hc ρ' μ' s' σ' H' _ hs' hm' (PostS.bind hs' h' fun b0 μ1 x H1 ρ1 t1 r1 h1 => ?_)
    cases r1
    cases b0 with
    | false => exact iteF (h1 σ' H1 ρ1 (Stp.refl t1.mem) (t1.s hs'))
    | true =>
      refine iteT ⟨fun σ2 H2 => ∃ ρ2 s2 μ2, RepM X.K H2 ρ2 μ2 ∧ RepS X.K H2 ρ2 s2 σ2 ∧ PostS X W ρ2 H2 (sWhile tc b m s2 μ2) D, fun σ2 H2 q => ⟨m, Nat.lt_succ_self m, q⟩, ?_⟩
      refine hb ρ1 μ1 s' σ' H1 _ (t1.s hs') t1.mem ?_
      cases e : b s' μ1 with
      | nx s2 μ2 =>
        simp only [e] at h1
        exact fun σ2 H2 ρ2 t r => ⟨ρ2, s2, μ2, t.mem, r, PostS.from t h1⟩
      | ct s2 μ2 =>
        simp only [e] at h1
        exact fun σ2 H2 ρ2 t r => ⟨ρ2, s2, μ2, t.mem, r, PostS.from t h1⟩
      | bk s2 μ2 => simp only [e] at h1; exact h1
      | rt u m2 => simp only [e] at h1; exact h1
      | ex c2 u m2 => simp only [e] at h1; exact h1
      | bad => simp only [e] at h1; exact h1.elim

/-! ### what is walked -/
inductive IterU where
  | seq (us : List U)
  | rng (lo c : Int) (n : Nat)
  | live (r : Nat)
  | zipL (a b : Nat)
  /-- the list at r from its item n - 1 down -/
  | rev (r n : Nat)
  /-- a tuple beside the list at r -/
  | zipM (us : List U) (r : Nat)
  /-- the list at r with the places -/
  | enum (r : Nat)
def listAt (μ : Mem) (r : Nat) : Option (List U) := match μ[r]? with
  | some (.lst us) => some us
  | _ => none
def itemAt (it : IterU) (i : Nat) (μ : Mem) : Option (Option U) := match it with
  | .seq us => some us[i]?
  | .rng lo c n => some (if i < n then some (.int (lo + (i : Int) * c)) else none)
  | .live r => (listAt μ r).map fun us => us[i]?
  | .zipL a b => match listAt μ a, listAt μ b with
    | some us, some ws => some (match us[i]?, ws[i]? with
      | some u, some w => some (.tup [u, w])
      | _, _ => none)
    | _, _ => none
  | .rev r n => (listAt μ r).bind fun us => if i < n then us[n - 1 - i]?.map some else some none
  | .zipM us r => match listAt μ r with
    | some ws => some (match us[i]?, ws[i]? with
      | some u, some w => some (.tup [u, w])
      | _, _ => none)
    | none => none
  | .enum r => (listAt μ r).map fun us => us[i]?.map fun u => .tup [.int (i : Nat), u]
def ItOk (K : PySem.W.Frag) (ρ : List Addr) (H : Hp) (it : IterU) (J : It) : Prop := ∀ i ρ' H' μ', Ext ρ ρ' → TX H H' → RepM K H' ρ' μ' → match itemAt it i μ' with
  | none => True
  | some none => J.stop i H'
  | some (some u) => J.go i H' ∧ ∀ x H'', J.yld i H' x H'' → Stp K ρ' H' ρ' H'' μ' ∧ RepV K H'' ρ' u x
def relI : RelT IterU It := fun K H ρ it J => ItOk K ρ H it J
abbrev FI := Slots → Mem → Res IterU
def WI (X : Cx) (tg iter : Expr) : TI := fun σ H R => ∃ wi, PI X tg iter wi ∧ wi σ H R
theorem pi_w {tg iter : Expr} : PI X tg iter (WI X tg iter) := ⟨fun pins s σ H R I ⟨_, h, q⟩ => h.run pins s σ H R I q⟩
def CI (X : Cx) (W : WX) (tg iter : Expr) (m : FI) : Prop := ∀ ρ μ s σ H R, RepS X.K H ρ s σ → RepM X.K H ρ μ → Post X W σ relI ρ H (m s μ) R → WI X tg iter σ H R
theorem listAt_ok {K : PySem.W.Frag} {H : Hp} {ρ : List Addr} {μ : Mem} (hm : RepM K H ρ μ) {r : Nat} {a : Addr} {us : List U} (hr : ρ[r]? = some a) (e : listAt μ r = some us) : ∃ vs, SqL K H a vs ∧ RepVs K H ρ us vs := by
  obtain ⟨c, hc, rc⟩ := hm.at hr
  simp only [listAt, hc] at e
  cases c with
  | lst us => obtain ⟨vs, q, r⟩ := rc; cases e; exact ⟨vs, .inl (.inl q), r⟩
  | _ => cases e
theorem it_live {K : PySem.W.Frag} {H : Hp} {ρ : List Addr} {r : Nat} {a : Addr} (hr : ρ[r]? = some a) : ItOk K ρ H (.live r) (Itl K a) := by
  intro i ρ' H' μ' ex tx hm
  simp only [itemAt]
  cases e : listAt μ' r with
  | none => trivial
  | some us =>
    obtain ⟨vs, q, rr⟩ := listAt_ok hm (ex.get hr) e
    simp only [Option.map_some]
    cases eu : us[i]? with
    | none =>
      refine ⟨vs, q, ?_⟩
      rw [← rr.length]
      exact List.getElem?_eq_none_iff.mp eu
    | some u =>
      obtain ⟨v, q2, r2⟩ := rr.get eu
      refine ⟨⟨vs, v, q, q2⟩, fun x H'' y => ?_⟩
      obtain ⟨rfl, hx⟩ := y
      have := hx vs q
      rw [q2] at this
      cases this
      exact ⟨Stp.refl hm, r2⟩
theorem it_frl {K : PySem.W.Frag} {H : Hp} {ρ : List Addr} {a : Addr} {us : List U} {vs : List V} (hs : FrL K H a vs) (hr : RepVs K H ρ us vs) : ItOk K ρ H (.seq us) (Itl K a) := by
  intro i ρ' H' μ' ex tx hm
  simp only [itemAt]
  have hs' := (tx.frl hs).sq
  have hr' := hr.mono tx ex
  cases eu : us[i]? with
  | none =>
    refine ⟨vs, hs', ?_⟩
    rw [← hr'.length]
    exact List.getElem?_eq_none_iff.mp eu
  | some u =>
    obtain ⟨v, q2, r2⟩ := hr'.get eu
    refine ⟨⟨vs, v, hs', q2⟩, fun x H'' y => ?_⟩
    obtain ⟨rfl, hx⟩ := y
    have := hx vs hs'
    rw [q2] at this
    cases this
    exact ⟨Stp.refl hm, r2⟩
theorem it_tup {K : PySem.W.Frag} {H : Hp} {ρ : List Addr} {a : Addr} {us : List U} {vs : List V} (hs : SqT K H a vs) (hr : RepVs K H ρ us vs) : ItOk K ρ H (.seq us) (Itt K a) := by
  intro i ρ' H' μ' ex tx hm
  simp only [itemAt]
  have hs' := tx.seq hs
  have hr' := hr.mono tx ex
  cases eu : us[i]? with
  | none =>
    refine ⟨vs, hs', ?_⟩
    rw [← hr'.length]
    exact List.getElem?_eq_none_iff.mp eu
  | some u =>
    obtain ⟨v, q2, r2⟩ := hr'.get eu
    refine ⟨⟨vs, v, hs', q2⟩, fun x H'' y => ?_⟩
    obtain ⟨rfl, hx⟩ := y
    have := hx vs hs'
    rw [q2] at this
    cases this
    exact ⟨Stp.refl hm, r2⟩
theorem it_rng {K : PySem.W.Frag} {H : Hp} {ρ : List Addr} {lo : Int} {n : Nat} : ItOk K ρ H (.rng lo 1 n) (Itr lo n) := by
  intro i ρ' H' μ' ex tx hm
  simp only [itemAt]
  by_cases hi : i < n
  · simp only [hi, if_true]
    refine ⟨hi, fun x H'' y => ?_⟩
    obtain ⟨rfl, rfl⟩ := y
    rw [Int.mul_one]
    exact ⟨Stp.refl hm, .int⟩
  · simp only [hi, if_false]
    show n ≤ i
    omega
theorem it_rngC {K : PySem.W.Frag} {H : Hp} {ρ : List Addr} {lo c : Int} {n : Nat} : ItOk K ρ H (.rng lo c n) (Itc lo c n) := by
  intro i ρ' H' μ' ex tx hm
  simp only [itemAt]
  by_cases hi : i < n
  · simp only [hi, if_true]
    refine ⟨hi, fun x H'' y => ?_⟩
    obtain ⟨rfl, rfl⟩ := y
    exact ⟨Stp.refl hm, .int⟩
  · simp only [hi, if_false]
    show n ≤ i
    omega
/-- a list, a tuple, a text: by value -/
def iAny (K : PySem.W.Frag) (tl : TE) : TI := fun σ H R => tl σ H fun x H1 => (∃ a, x = .ref a ∧ (∃ xs, SqL K H1 a xs) ∧ R (Itl K a) H1) ∨ (∃ a, x = .ref a ∧ (∃ xs, SqT K H1 a xs) ∧ R (Itt K a) H1) ∨ ∃ z, x = .str z ∧ R (Its z) H1
theorem pi_any {tg l : Expr} {tl : TE} (hl : PE X l tl) : PI X tg l (iAny X.K tl) := by
  refine ⟨fun pins s σ H R I h => ?_⟩
  refine thn (hl.run pins s σ H _ I h) fun v s1 ⟨x, H1, I1, r1, q1⟩ => ?_
  rcases q1 with ⟨a, e, ⟨xs, hq⟩, q⟩ | ⟨a, e, ⟨xs, hq⟩, q⟩ | ⟨x, e, q⟩
  · subst e
    cases r1
    obtain ⟨its, rv, p, hz⟩ := I1.list hq
    refine wpAny_pyIter_list p.isList ?_
    refine ⟨s1.heap.objs.size, [s1.heap.objs.size], _, _, H1, rfl, I1.kept (t' := s1.toks) fun b o e => Heap.get?_push_of_some _ e, turn_list a _, ⟨_, Heap.get?_push_size _ rfl, rfl, rfl⟩, fun b hb => ?_, q⟩
    have e : b = s1.heap.objs.size := by simpa using hb
    subst e
    exact I1.fpOk (Nat.le_refl _) (I1.hok.fresh (Nat.le_refl _))
  · subst e
    cases r1
    obtain ⟨its, rv, p, hz⟩ := I1.tuple hq
    refine wpAny_pyIter_tuple (show s1.heap.IsTuple a its.toArray from p) ?_
    refine ⟨s1.heap.objs.size, [s1.heap.objs.size], _, _, H1, rfl, I1.kept (t' := s1.toks) fun b o e => Heap.get?_push_of_some _ e, turn_tuple a _, ⟨_, Heap.get?_push_size _ rfl, rfl, rfl⟩, fun b hb => ?_, q⟩
    have e : b = s1.heap.objs.size := by simpa using hb
    subst e
    exact I1.fpOk (Nat.le_refl _) (I1.hok.fresh (Nat.le_refl _))
  · subst e
    obtain ⟨t, rfl⟩ := r1
    cases ha : x.cps.all (· < 128)
    · exact wpAny_pyIter_wide ha (pi_one (tk := s1.toks) I1 _ (turn_str _ x t "str_iterator" (.inr rfl)) ⟨_, Heap.get?_push_size _ rfl, rfl, rfl⟩ q)
    · exact wpAny_pyIter_ascii ha (pi_one (tk := s1.toks) I1 _ (turn_str _ x t "str_ascii_iterator" (.inl rfl)) ⟨_, Heap.get?_push_size _ rfl, rfl, rfl⟩ q)
def signsU (z : Str) : List U := z.cps.toList.map fun c => .str ⟨#[c]⟩
theorem it_str {K : PySem.W.Frag} {H : Hp} {ρ : List Addr} {z : Str} (hz : PyData.strOk z = true) : ItOk K ρ H (.seq (signsU z)) (Its z) := by
  intro i ρ' H' μ' ex tx hm
  simp only [itemAt, signsU, List.getElem?_map]
  cases eu : z.cps.toList[i]? with
  | none =>
    show z.cps.size ≤ i
    have := List.getElem?_eq_none_iff.mp eu
    simpa using this
  | some c =>
    have hi : i < z.cps.size := by
      have := (List.getElem?_eq_some_iff.mp eu).1
      simpa using this
    refine ⟨hi, fun x H'' y => ?_⟩
    obtain ⟨rfl, c', e1, rfl⟩ := y
    have e2 : z.cps[i]? = some c := by
      rw [← Array.getElem?_toList]; exact eu
    rw [e1] at e2
    cases e2
    refine ⟨Stp.refl hm, .str ?_⟩
    have hc : c ∈ z.cps := Array.mem_toList_iff.mp (List.mem_of_getElem? eu)
    unfold PyData.strOk at *
    rw [Array.all_eq_true'] at *
    intro x hx
    have : x = c := by simpa using hx
    subst this
    exact hz x hc
def iSeq (a : FE) : FI := fun s μ => (a s μ).bind fun u μ1 => match u with
  | .tup us => .ok (.seq us) μ1
  | .frl us => .ok (.seq us) μ1
  | .str z => .ok (.seq (signsU z)) μ1
  | .ref r => match listAt μ1 r with
    | some _ => .ok (.live r) μ1
    | none => .bad
  | _ => .bad
theorem ci_seq {tg e : Expr} {me : FE} (he : CE X W e me) : CI X W tg e (iSeq me) := by
  intro ρ μ s σ H R hs hm h
  unfold iSeq at h
  refine ⟨_, pi_any pe_w, ?_⟩
  refine he ρ μ s σ H _ hs hm (h.bind fun u μ1 x H1 ρ1 t1 r1 h1 => ?_)
  cases r1 with
  | tup hs1 hr1 => exact .inr (.inl ⟨_, rfl, ⟨_, hs1⟩, h1.ok (Stp.refl t1.mem) (it_tup hs1 hr1)⟩)
  | str hz => exact .inr (.inr ⟨_, rfl, h1.ok (Stp.refl t1.mem) (it_str hz)⟩)
  | frl hs1 hr1 => exact .inl ⟨_, rfl, ⟨_, hs1.sq⟩, h1.ok (Stp.refl t1.mem) (it_frl hs1 hr1)⟩
  | ref hr =>
    rename_i r a
    simp only at h1
    cases e : listAt μ1 r with
    | none => rw [e] at h1; exact h1.elim
    | some us =>
      rw [e] at h1
      obtain ⟨vs, q, _⟩ := listAt_ok t1.mem hr e
      exact .inl ⟨a, rfl, ⟨vs, q⟩, h1.ok (Stp.refl t1.mem) (it_live hr)⟩
  | _ => exact h1.elim
def okR (i : Int) : Bool := decide (-(2 ^ 62) ≤ i ∧ i < 2 ^ 62)
def iRg1 (a : FE) : FI := fun s μ => (a s μ).bind fun u μ1 => match u with
  | .int n => if okR n then .ok (.rng 0 1 n.toNat) μ1 else .bad
  | _ => .bad
theorem ci_rg1 {tg a : Expr} {ma : FE} {p pos : Pos} (hg : Gl X "range") (hm0 : X.mg "range" = none) (ha : CE X W a ma) (hs1 : starEach [a] X.env = (false, eval a X.env) :: starEach [] X.env := by rfl) (hs2 : starEach [a] X.env = [(false, eval a X.env)] := by rfl) : CI X W tg (.Call (.Name "range" p) [a] [] pos) (iRg1 ma) := by
  intro ρ μ s σ H R hs hm h
  refine ⟨_, pi_range1 hg hm0 (pa_cons pe_w pa_nil hs1) hs2, ?_⟩
  refine ha ρ μ s σ H _ hs hm (h.bind fun u μ1 x H1 ρ1 t1 r1 h1 => ?_)
  split at h1
  · cases r1
    split at h1
    · rename_i hz
      have hz' := of_decide_eq_true hz
      exact ⟨_, rfl, hz'.1, hz'.2, h1.ok (Stp.refl t1.mem) it_rng⟩
    · exact h1.elim
  · exact h1.elim
def iRg2 (a b : FE) : FI := fun s μ => (a s μ).bind fun u μ1 => (b s μ1).bind fun w μ2 => match u, w with
  | .int i, .int j => if okR i && okR j then .ok (.rng i 1 (j - i).toNat) μ2 else .bad
  | _, _ => .bad
theorem ci_rg2 {tg a b : Expr} {ma mb : FE} {p pos : Pos} (hg : Gl X "range") (hm0 : X.mg "range" = none) (ha : CE X W a ma) (hb : CE X W b mb)
    (hp : ∀ {ta : TA}, PA X [a, b] ta → PI X tg (.Call (.Name "range" p) [a, b] [] pos) (iRng2 ta)) (hs1 : starEach [a, b] X.env = (false, eval a X.env) :: starEach [b] X.env := by rfl) (hs2 : starEach [b] X.env = (false, eval b X.env) :: starEach [] X.env := by rfl) :
    CI X W tg (.Call (.Name "range" p) [a, b] [] pos) (iRg2 ma mb) := by
  intro ρ μ s σ H R hs hm h
  refine ⟨_, hp (pa_cons pe_w (pa_cons pe_w pa_nil hs2) hs1), ?_⟩
  refine ha ρ μ s σ H _ hs hm (h.bind fun u μ1 x H1 ρ1 t1 r1 h1 => ?_)
  refine hb ρ1 μ1 s σ H1 _ (t1.s hs) t1.mem (h1.bind fun w μ2 y H2 ρ2 t2 r2 h2 => ?_)
  split at h2
  · cases r1; cases r2
    split at h2
    · rename_i hz
      obtain ⟨h3, h4⟩ := Bool.and_eq_true_iff.mp hz
      have h3' := of_decide_eq_true h3
      have h4' := of_decide_eq_true h4
      exact ⟨_, _, rfl, ⟨h3'.1, h3'.2, h4'.1, h4'.2⟩, h2.ok (Stp.refl t2.mem) it_rng⟩
    · exact h2.elim
  · exact h2.elim
/-- reversed(range(n)) -/
def iRev1 (a : FE) : FI := fun s μ => (a s μ).bind fun u μ1 => match u with
  | .int n => if okR n then .ok (.rng (n.toNat - 1) (-1) n.toNat) μ1 else .bad
  | _ => .bad
theorem ci_rev1 {tg a : Expr} {ma : FE} {p pos p2 pos2 : Pos} (hg : Gl X "reversed") (hm0 : X.mg "reversed" = none) (hg2 : Gl X "range") (hm2 : X.mg "range" = none) (ha : CE X W a ma)
    (hp : ∀ {ta : TE}, PE X a ta → PI X tg (.Call (.Name "reversed" p) [.Call (.Name "range" p2) [a] [] pos2] [] pos) (iRevR (tRg1 ta))) : CI X W tg (.Call (.Name "reversed" p) [.Call (.Name "range" p2) [a] [] pos2] [] pos) (iRev1 ma) := by
  intro ρ μ s σ H R hs hm h
  refine ⟨_, hp pe_w, ?_⟩
  refine ha ρ μ s σ H _ hs hm (h.bind fun u μ1 x H1 ρ1 t1 r1 h1 => ?_)
  split at h1
  · cases r1
    rename_i n
    split at h1
    · rename_i hz
      have hz' := of_decide_eq_true hz
      refine ⟨_, rfl, by decide, by decide, hz'.1, hz'.2, ?_⟩
      have e1 : (n - 0).toNat = n.toNat := by rw [Int.sub_zero]
      have e2 : (0 : Int) + (((n - 0).toNat : Nat) : Int) - 1 = (n.toNat : Int) - 1 := by rw [e1]; omega
      rw [e1, Int.zero_add]
      exact h1.ok (Stp.refl t1.mem) it_rngC
    · exact h1.elim
  · exact h1.elim
theorem it_zipT {K : PySem.W.Frag} {H : Hp} {ρ : List Addr} {a b : Addr} {us ws : List U} {vs xs : List V} (hs : SqT K H a vs) (hr : RepVs K H ρ us vs) (hs2 : SqT K H b xs) (hr2 : RepVs K H ρ ws xs) : ItOk K ρ H (.seq (List.zipWith (fun u w => .tup [u, w]) us ws)) (ItzT K a b) := by
  intro i ρ' H' μ' ex tx hm
  simp only [itemAt]
  have hs' := tx.seq hs
  have hr' := hr.mono tx ex
  have hs2' := tx.seq hs2
  have hr2' := hr2.mono tx ex
  rw [List.getElem?_zipWith]
  cases eu : us[i]? with
  | none =>
    refine ⟨vs, xs, hs', hs2', .inl ?_⟩
    rw [← hr'.length]
    exact List.getElem?_eq_none_iff.mp eu
  | some u =>
    cases ew : ws[i]? with
    | none =>
      refine ⟨vs, xs, hs', hs2', .inr ?_⟩
      rw [← hr2'.length]
      exact List.getElem?_eq_none_iff.mp ew
    | some w =>
      obtain ⟨v, q2, r2⟩ := hr'.get eu
      obtain ⟨v2, q3, r3⟩ := hr2'.get ew
      refine ⟨⟨vs, xs, v, v2, hs', hs2', q2, q3⟩, fun x H'' y => ?_⟩
      obtain ⟨T, x1, y1, rfl, nT, rfl, f1, f2⟩ := y
      have e1 := f1 vs hs'
      rw [q2] at e1
      cases e1
      have e2 := f2 xs hs2'
      rw [q3] at e2
      cases e2
      exact ⟨Stp.temp hm nT, newT nT (.cons r2 (.one r3))⟩
theorem it_zipL {K : PySem.W.Frag} {H : Hp} {ρ : List Addr} {a b : Addr} {r1 r2 : Nat} (h1 : ρ[r1]? = some a) (h2 : ρ[r2]? = some b) : ItOk K ρ H (.zipL r1 r2) (Itz K a b) := by
  intro i ρ' H' μ' ex tx hm
  simp only [itemAt]
  cases e1 : listAt μ' r1 with
  | none => trivial
  | some us =>
    cases e2 : listAt μ' r2 with
    | none => trivial
    | some ws =>
      obtain ⟨vs, q1, rr1⟩ := listAt_ok hm (ex.get h1) e1
      obtain ⟨xs, q2, rr2⟩ := listAt_ok hm (ex.get h2) e2
      simp only
      cases eu : us[i]? with
      | none =>
        refine ⟨vs, xs, q1, q2, .inl ?_⟩
        rw [← rr1.length]
        exact List.getElem?_eq_none_iff.mp eu
      | some u =>
        cases ew : ws[i]? with
        | none =>
          refine ⟨vs, xs, q1, q2, .inr ?_⟩
          rw [← rr2.length]
          exact List.getElem?_eq_none_iff.mp ew
        | some w =>
          obtain ⟨v, q3, r3⟩ := rr1.get eu
          obtain ⟨v2, q4, r4⟩ := rr2.get ew
          refine ⟨⟨vs, xs, v, v2, q1, q2, q3, q4⟩, fun x H'' y => ?_⟩
          obtain ⟨T, x1, y1, rfl, nT, rfl, f1, f2⟩ := y
          have g1 := f1 vs q1
          rw [q3] at g1
          cases g1
          have g2 := f2 xs q2
          rw [q4] at g2
          cases g2
          exact ⟨Stp.temp hm nT, newT nT (.cons r3 (.one r4))⟩
/-- zip of two tuples, of two lists -/
def iZip (a b : FE) : FI := fun s μ => (a s μ).bind fun u μ1 => (b s μ1).bind fun w μ2 => match u, w with
  | .tup us, .tup ws => .ok (.seq (List.zipWith (fun u w => .tup [u, w]) us ws)) μ2
  | .ref r1, .ref r2 => match listAt μ2 r1, listAt μ2 r2 with
    | some _, some _ => .ok (.zipL r1 r2) μ2
    | _, _ => .bad
  | _, _ => .bad
theorem ci_zip {tg a b : Expr} {ma mb : FE} {p pos : Pos} (ha : CE X W a ma) (hb : CE X W b mb)
    (hp : ∀ {ta : TA}, PA X [a, b] ta → PI X tg (.Call (.Name "zip" p) [a, b] [] pos) (iZipA X.K ta)) (hs1 : starEach [a, b] X.env = (false, eval a X.env) :: starEach [b] X.env := by rfl) (hs2 : starEach [b] X.env = (false, eval b X.env) :: starEach [] X.env := by rfl) :
    CI X W tg (.Call (.Name "zip" p) [a, b] [] pos) (iZip ma mb) := by
  intro ρ μ s σ H R hs hm h
  refine ⟨_, hp (pa_cons pe_w (pa_cons pe_w pa_nil hs2) hs1), ?_⟩
  refine ha ρ μ s σ H _ hs hm (h.bind fun u μ1 x H1 ρ1 t1 r1 h1 => ?_)
  refine hb ρ1 μ1 s σ H1 _ (t1.s hs) t1.mem (h1.bind fun w μ2 y H2 ρ2 t2 r2 h2 => ?_)
  have r1' := t2.v r1
  split at h2
  · cases r1' with
    | tup a1 a2 => cases r2 with
      | tup b1 b2 => exact ⟨_, _, _, _, rfl, .inr ⟨a1, b1, h2.ok (Stp.refl t2.mem) (it_zipT a1 a2 b1 b2)⟩⟩
  · cases r1' with
    | ref a1 => cases r2 with
      | ref b1 =>
        split at h2
        · rename_i e1 e2
          obtain ⟨vs, q1, _⟩ := listAt_ok t2.mem a1 e1
          obtain ⟨xs, q2, _⟩ := listAt_ok t2.mem b1 e2
          exact ⟨_, _, _, _, rfl, .inl ⟨q1, q2, h2.ok (Stp.refl t2.mem) (it_zipL a1 b1)⟩⟩
        · exact h2.elim
  · exact h2.elim

/-! ### for -/
def fuelF : Nat := 1000000
def sForGo (g : Tgt) (b : FS) : Nat → IterU → Nat → FS
  | 0, _, _ => fun _ _ => .bad
  | f + 1, it, i => fun s μ => match itemAt it i μ with
    | none => .bad
    | some none => .nx s μ
    | some (some u) => match setT g u s with
      | none => .bad
      | some s1 => match b s1 μ with
        | .nx s2 μ2 => sForGo g b f it (i + 1) s2 μ2
        | .ct s2 μ2 => sForGo g b f it (i + 1) s2 μ2
        | .bk s2 μ2 => .nx s2 μ2
        | o => o
def sFor (it : FI) (g : Tgt) (b : FS) : FS := fun s μ => ofR (it s μ) s fun j μ1 => sForGo g b fuelF j 0 s μ1
theorem cs_for {tg iter : Expr} {body : List Stmt} {mi : FI} {g : Tgt} {b : FS} {pos : Pos} (G : Good X W k) (hi : CI X W tg iter mi) (hg : CG X tg g) (hb : CSs X W body b)
    (hs0 : ∀ x, foldedSetIterable iter X.env x = pure x := by intro _; rfl) : CS X W (.For tg iter body [] pos) (sFor mi g b) := by
  intro ρ μ s σ H D hs hm h
  refine ⟨_, ps_for G.po G.calm pi_w pg_w pss_w hs0, ?_⟩
  refine hi ρ μ s σ H _ hs hm (PostS.bind hs h fun j μ1 J H1 ρ1 t1 r1 h1 => ?_)
  have hJ : ItOk X.K ρ1 H1 j J := r1
  refine ⟨fun i m σ' H' => ∃ ρ' s' μ', Stp X.K ρ1 H1 ρ' H' μ' ∧ RepS X.K H' ρ' s' σ' ∧ PostS X W ρ' H' (sForGo g b m j i s' μ') D, ⟨fuelF, ρ1, s, μ1, Stp.refl t1.mem, t1.s hs, h1⟩, ?_⟩
  intro i m σ' H' ⟨ρ', s', μ', t', hs', h'⟩
  cases m with
  | zero => exact h'.elim
  | succ m =>
    have q := hJ i ρ' H' μ' t'.ext t'.tx t'.mem
    unfold sForGo at h'
    cases e : itemAt j i μ' with
    | none => rw [e] at h'; exact h'.elim
    | some o =>
      rw [e] at h' q
      cases o with
      | none => exact .inl ⟨q, h' σ' H' ρ' (Stp.refl t'.mem) hs'⟩
      | some u =>
        refine .inr ⟨q.1, fun σ2 H2 => ∃ ρ2 s2 μ2, Stp X.K ρ1 H1 ρ2 H2 μ2 ∧ RepS X.K H2 ρ2 s2 σ2 ∧ PostS X W ρ2 H2 (sForGo g b m j (i + 1) s2 μ2) D, fun σ2 H2 z => ⟨m, Nat.lt_succ_self m, z⟩, fun x H'' y => ?_⟩
        obtain ⟨t2, ru⟩ := q.2 x H'' y
        simp only at h'
        cases es : setT g u s' with
        | none => rw [es] at h'; exact h'.elim
        | some s1 =>
          rw [es] at h'
          simp only at h'
          refine hg ρ' s' σ' H'' u x s1 _ (t2.s hs') ru es fun σ3 hs3 _ => ?_
          refine hb ρ' μ' s1 σ3 H'' _ hs3 t2.mem ?_
          cases eb : b s1 μ' with
          | nx s2 μ2 =>
            rw [eb] at h'
            exact fun σ4 H4 ρ4 t r => ⟨ρ4, s2, μ2, (t'.trans t2).trans t, r, PostS.from (t2.trans t) h'⟩
          | ct s2 μ2 =>
            rw [eb] at h'
            exact fun σ4 H4 ρ4 t r => ⟨ρ4, s2, μ2, (t'.trans t2).trans t, r, PostS.from (t2.trans t) h'⟩
          | bk s2 μ2 => rw [eb] at h'; exact PostS.from t2 h'
          | rt u m2 => rw [eb] at h'; exact PostS.from t2 h'
          | ex c2 u m2 => rw [eb] at h'; exact PostS.from t2 h'
          | bad => rw [eb] at h'; exact h'.elim

/-! ### [e for x in xs if t] -/
def wipeU (s : Slots) : List Nat → Slots
  | [] => s
  | v :: vs => (wipeU s vs).set v none
def lcGo (j : IterU) (own : List Nat) (g : Tgt) (t : FT) (e : FE) (s : Slots) (D : Nat) : Nat → Nat → Mem → Res U
  | 0, _, _ => .bad
  | f + 1, i, μ => match itemAt j i μ with
    | none => .bad
    | some none => .ok (.ref D) μ
    | some (some u) => match setT g u (wipeU s own) with
      | none => .bad
      | some s1 => match t s1 μ with
        | .ok true μ3 => match e s1 μ3 with
          | .ok v μ4 => match μ4[D]? with
            | some (.lst acc) => if acc.length < lim then lcGo j own g t e s D f (i + 1) (μ4.set D (.lst (acc ++ [v]))) else .bad
            | _ => .bad
          | _ => .bad
        | .ok false μ3 => lcGo j own g t e s D f (i + 1) μ3
        | _ => .bad
def fLc (it : FI) (own : List Nat) (g : Tgt) (t : FT) (e : FE) : FE := fun s μ => (it s μ).bind fun j μ1 => lcGo j own g t e s μ1.length fuelF 0 (μ1 ++ [.lst []])
def tAll : FT := fun _ μ => .ok true μ
theorem RepS.wipe {K : PySem.W.Frag} {H : Hp} {ρ : List Addr} {s : Slots} {σ : L2.St} (h : RepS K H ρ s σ) : ∀ vs : List Nat, RepS K H ρ (wipeU s vs) (L2.wipe σ vs)
  | [] => h
  | v :: vs => by
    have ih := RepS.wipe h vs
    refine ⟨by simp [wipeU, L2.wipe, ih.len], fun i u e => ?_⟩
    by_cases hv : v = i
    · subst hv
      have : v < (wipeU s vs).length := by
        have := (List.getElem?_eq_some_iff.mp e).1
        simpa [wipeU] using this
      simp only [wipeU] at e
      rw [List.getElem?_set_self this] at e
      cases e
    · simp only [wipeU] at e
      rw [List.getElem?_set_ne hv] at e
      obtain ⟨x, q, r⟩ := ih.get i u e
      refine ⟨x, ?_, r⟩
      show ((L2.wipe σ vs).set v none)[i]? = _
      rw [List.getElem?_set_ne hv]
      exact q
abbrev W0 : WX := fun _ _ _ _ => False
/-- an element of a comprehension, in all the frames that it may have -/
def WEb (X : Cx) (scope : Scope) (e : Expr) : TE := fun σ H Q => ∀ (s : Shared) (H0 : Hp) (C : Addr) (cl : List (Str × Addr)) (fp : List Addr), WE (X.blk s H0 scope (compEnvC scope cl C X.env) fp) e σ H Q
theorem pe_wb {scope : Scope} {e : Expr} (s : Shared) (H0 : Hp) (C : Addr) (cl : List (Str × Addr)) (fp : List Addr) : PE (X.blk s H0 scope (compEnvC scope cl C X.env) fp) e (WEb X scope e) :=
  ⟨fun pins s1 σ H Q I q => pe_w.run pins s1 σ H Q I (q s H0 C cl fp)⟩
def WGb (X : Cx) (scope : Scope) (e : Expr) : TG := fun v σ H Q => ∀ (s : Shared) (H0 : Hp) (C : Addr) (cl : List (Str × Addr)) (fp : List Addr), WG (X.blk s H0 scope (compEnvC scope cl C X.env) fp) e v σ H Q
theorem pg_wb {scope : Scope} {e : Expr} (s : Shared) (H0 : Hp) (C : Addr) (cl : List (Str × Addr)) (fp : List Addr) : PG (X.blk s H0 scope (compEnvC scope cl C X.env) fp) e (WGb X scope e) :=
  ⟨fun pins s1 σ H v u Q I r q => pg_w.run pins s1 σ H v u Q I r (q s H0 C cl fp)⟩
def WTs (X : Cx) (ifs : List Expr) : TT := fun σ H Q => ∃ t, PTs X ifs t ∧ t σ H Q
theorem pts_w {ifs : List Expr} : PTs X ifs (WTs X ifs) := ⟨fun pins s σ H Q I ⟨_, h, q⟩ => h.run pins s σ H Q I q⟩
def CTs (X : Cx) (W : WX) (ifs : List Expr) (m : FT) : Prop := ∀ ρ μ s σ H Q, RepS X.K H ρ s σ → RepM X.K H ρ μ → Post X W σ relB ρ H (m s μ) Q → WTs X ifs σ H Q
theorem cts_nil : CTs X W [] tAll := fun ρ μ s σ H Q hs hm h => ⟨_, pts_nil, h.ok (Stp.refl hm) rfl⟩
theorem cts_one {c : Expr} {t : FT} (h : CT X W c t) : CTs X W [c] t := fun ρ μ s σ H Q hs hm p => ⟨_, pts_one pt_w, h ρ μ s σ H Q hs hm p⟩
def WTb (X : Cx) (scope : Scope) (ifs : List Expr) : TT := fun σ H Q => ∀ (s : Shared) (H0 : Hp) (C : Addr) (cl : List (Str × Addr)) (fp : List Addr), WTs (X.blk s H0 scope (compEnvC scope cl C X.env) fp) ifs σ H Q
theorem pts_wb {scope : Scope} {ifs : List Expr} (s : Shared) (H0 : Hp) (C : Addr) (cl : List (Str × Addr)) (fp : List Addr) : PTs (X.blk s H0 scope (compEnvC scope cl C X.env) fp) ifs (WTb X scope ifs) :=
  ⟨fun pins s1 σ H Q I q => pts_w.run pins s1 σ H Q I (q s H0 C cl fp)⟩
def subT (g : Tgt) (own : List Nat) : Bool := match g with
  | .one i => decide (i ∈ own)
  | .tup is => is.all fun i => decide (i ∈ own)
theorem subT_ok {g : Tgt} {own : List Nat} (h : subT g own = true) : inT g own := by
  cases g with
  | one i =>
    have h' : decide (i ∈ own) = true := h
    have h2 : i ∈ own := of_decide_eq_true h'
    exact h2
  | tup is =>
    have h' : (is.all fun i => decide (i ∈ own)) = true := h
    have h2 : ∀ i ∈ is, i ∈ own := fun i hi => of_decide_eq_true (List.all_eq_true.mp h' i hi)
    exact h2
/-- what a comprehension's reading asks is shown by the mirror's -/
theorem lc_reads {tg iter : Expr} {ifs : List Expr} {elt : Expr} {scope : Scope} {own : List Nat} {mi : FI} {g : Tgt} {t : FT} {e : FE} (hi : CI X W tg iter mi)
    (hg : ∀ s H0 C cl fp, CG (X.blk s H0 scope (compEnvC scope cl C X.env) fp) tg g) (ht : ∀ s H0 C cl fp, CTs (X.blk s H0 scope (compEnvC scope cl C X.env) fp) W0 ifs t)
    (he : ∀ s H0 C cl fp, CE (X.blk s H0 scope (compEnvC scope cl C X.env) fp) W0 elt e) (hsub : subT g own = true)
    {ρ : List Addr} {μ : Mem} {s : Slots} {σ : L2.St} {H : Hp} {Q : VK} (hs : RepS X.K H ρ s σ) (hm : RepM X.K H ρ μ) (h : Post X W σ relV ρ H (fLc mi own g t e s μ) Q) :
    tLc (WI X tg iter) (WGb X scope tg) (WTb X scope ifs) (WEb X scope elt) own σ H Q := by
  refine hi ρ μ s σ H _ hs hm (h.bind fun j μ1 J H1 ρ1 t1 r1 h1 => ?_)
  intro D hD
  have hJ : ItOk X.K ρ1 H1 j J := r1
  have tD := newL t1.mem hD (RepVs.nil (K := X.K) (H := H1) (ρ := ρ1))
  refine ⟨fun i m H' => ∃ ρ' μ', Stp X.K (ρ1 ++ [D]) (upd H1 D (.lst [])) ρ' H' μ' ∧ Post X W σ relV ρ' H' (lcGo j own g t e s μ1.length m i μ') Q, ⟨fuelF, ρ1 ++ [D], μ1 ++ [.lst []], Stp.refl tD.mem, ?_⟩, ?_⟩
  · revert h1
    generalize lcGo j own g t e s μ1.length fuelF 0 (μ1 ++ [.lst []]) = z
    intro h1
    cases z with
    | ok c m2 => exact fun v2 H3 ρ3 t3 q3 => h1 v2 H3 ρ3 (tD.trans t3) q3
    | ex c m2 => exact fun cls H3 ρ3 t3 e => h1 cls H3 ρ3 (tD.trans t3) e
    | bad => exact h1
  intro i m H' ⟨ρ', μ', t', h'⟩
  have hDr : ρ'[μ1.length]? = some D := t'.ext.get (by rw [← t1.mem.len, List.getElem?_append_right (Nat.le_refl _)]; simp)
  cases m with
  | zero => exact h'.elim
  | succ m =>
    have q := hJ i ρ' H' μ' (tD.ext.trans t'.ext) (tD.tx.trans t'.tx) t'.mem
    unfold lcGo at h'
    cases e0 : itemAt j i μ' with
    | none => rw [e0] at h'; exact h'.elim
    | some o =>
      rw [e0] at h' q
      cases o with
      | none => exact .inl ⟨q, h'.ok (Stp.refl t'.mem) (.ref hDr)⟩
      | some u =>
        refine .inr ⟨q.1, fun H2 => ∃ ρ2 μ2, Stp X.K (ρ1 ++ [D]) (upd H1 D (.lst [])) ρ2 H2 μ2 ∧ Post X W σ relV ρ2 H2 (lcGo j own g t e s μ1.length m (i + 1) μ2) Q, fun H2 z => ⟨m, Nat.lt_succ_self m, z⟩, fun x H'' y => ?_⟩
        obtain ⟨t2, ru⟩ := q.2 x H'' y
        simp only at h'
        have hsw : RepS X.K H'' ρ' (wipeU s own) (wipe σ own) := (t2.s (t'.s (tD.s (t1.s hs)))).wipe own
        cases es : setT g u (wipeU s own) with
        | none => rw [es] at h'; exact h'.elim
        | some s1 =>
          rw [es] at h'
          simp only at h'
          intro s0 H0 C cl fp
          refine hg s0 H0 C cl fp ρ' (wipeU s own) (wipe σ own) H'' u x s1 _ hsw ru es fun σ3 hs3 hw => ⟨?_, ?_⟩
          · have := hw own (subT_ok hsub)
            rw [this]
            exact wipe_wipe fun i hi => hi
          · intro s0' H0' C' cl' fp'
            refine ht s0' H0' C' cl' fp' ρ' μ' s1 σ3 H'' _ hs3 t2.mem ?_
            cases et : t s1 μ' with
            | ex c m2 => rw [et] at h'; exact h'.elim
            | bad => rw [et] at h'; exact h'.elim
            | ok b μ3 =>
              rw [et] at h'
              intro b' H4 ρ4 t4 r4
              cases r4
              cases b with
              | false =>
                refine iteF ⟨ρ4, μ3, (t'.trans t2).trans t4, ?_⟩
                simp only at h'
                revert h'
                generalize lcGo j own g t e s μ1.length m (i + 1) μ3 = z
                intro h'
                cases z with
                | ok c m2 => exact fun v2 H3 ρ3 t3 q3 => h' v2 H3 ρ3 ((t2.trans t4).trans t3) q3
                | ex c m2 => exact fun cls H3 ρ3 t3 e => h' cls H3 ρ3 ((t2.trans t4).trans t3) e
                | bad => exact h'
              | true =>
                refine iteT ?_
                intro s0' H0' C' cl' fp'
                refine he s0' H0' C' cl' fp' ρ4 μ3 s1 σ3 H4 _ (t4.s hs3) t4.mem ?_
                simp only at h'
                cases ee : e s1 μ3 with
                | ex c m2 => rw [ee] at h'; exact h'.elim
                | bad => rw [ee] at h'; exact h'.elim
                | ok v μ4 =>
                  rw [ee] at h'
                  simp only at h'
                  intro w H5 ρ5 t5 r5
                  split at h'
                  · rename_i acc em
                    split at h'
                    · rename_i hz
                      have hD5 : ρ5[μ1.length]? = some D := t5.ext.get (t4.ext.get (t2.ext.get hDr))
                      obtain ⟨ws, q5, rr⟩ := lst_of t5.mem hD5 em
                      have t6 := putL t5.mem hD5 em (rr.append (.one r5))
                      refine ⟨ws, q5, by rw [← rr.length]; exact lim_lt hz, ρ5, _, (((t'.trans t2).trans t4).trans t5).trans t6, ?_⟩
                      revert h'
                      generalize lcGo j own g t e s μ1.length m (i + 1) (μ4.set μ1.length (.lst (acc ++ [v]))) = z
                      intro h'
                      cases z with
                      | ok c m2 => exact fun v2 H3 ρ3 t3 q3 => h' v2 H3 ρ3 ((((t2.trans t4).trans t5).trans t6).trans t3) q3
                      | ex c m2 => exact fun cls H3 ρ3 t3 e => h' cls H3 ρ3 ((((t2.trans t4).trans t5).trans t6).trans t3) e
                      | bad => exact h'
                    · exact h'.elim
                  · exact h'.elim
theorem ce_lc {tg iter : Expr} {ifs : List Expr} {elt : Expr} {scope : Scope} {own : List (Str × Nat)} {pos : Pos} {mi : FI} {g : Tgt} {t : FT} {e : FE} (G : Good X W k) (hN : X.N.Nodup) (ok : BlkOk X.N X.env.scope scope own) (hi : CI X W tg iter mi)
    (hg : ∀ s H0 C cl fp, CG (X.blk s H0 scope (compEnvC scope cl C X.env) fp) tg g) (ht : ∀ s H0 C cl fp, CTs (X.blk s H0 scope (compEnvC scope cl C X.env) fp) W0 ifs t)
    (he : ∀ s H0 C cl fp, CE (X.blk s H0 scope (compEnvC scope cl C X.env) fp) W0 elt e) (hsub : subT g (own.map (·.2)) = true) (hs0 : ∀ x, foldedSetIterable iter X.env x = pure x := by intro _; rfl) :
    CE X W (.ListComp elt [⟨tg, iter, ifs, 0⟩] scope pos) (fLc mi (own.map (·.2)) g t e) :=
  fun ρ μ s σ H Q hs hm h => ⟨_, pe_lc G.calm hN pi_w ok pg_wb pts_wb pe_wb hs0, lc_reads hi hg ht he hsub hs hm h⟩
theorem cs_setLc {i : Nat} {y : Str} {py : Pos} {tg iter : Expr} {ifs : List Expr} {elt : Expr} {scope : Scope} {own : List (Str × Nat)} {pos spos : Pos} {mi : FI} {g : Tgt} {t : FT} {e : FE} (G : Good X W k) (hN : X.N.Nodup) (hy : X.N[i]? = some y) (hyl : X.env.scope.names.lookup y = some .local)
    (hsw : swapsWith (.ListComp elt [⟨tg, iter, ifs, 0⟩] scope pos) (some (.Name y py)) spos.line X.env = pure true) (ok : BlkOk X.N X.env.scope scope own) (hi : CI X W tg iter mi)
    (hg : ∀ s H0 C cl fp, CG (X.blk s H0 scope (compEnvC scope cl C X.env) fp) tg g) (ht : ∀ s H0 C cl fp, CTs (X.blk s H0 scope (compEnvC scope cl C X.env) fp) W0 ifs t)
    (he : ∀ s H0 C cl fp, CE (X.blk s H0 scope (compEnvC scope cl C X.env) fp) W0 elt e) (hsub : subT g (own.map (·.2)) = true)
    (hp : ∀ {wi : TI} {gg : TG} {tt : TT} {te : TE}, PI X tg iter wi → (∀ (s : Shared) (H : Hp) (C : Addr) (cl : List (Str × Addr)) (fp : List Addr), PG (X.blk s H scope (compEnvC scope cl C X.env) fp) tg gg) → (∀ (s : Shared) (H : Hp) (C : Addr) (cl : List (Str × Addr)) (fp : List Addr), PTs (X.blk s H scope (compEnvC scope cl C X.env) fp) ifs tt) →
      (∀ (s : Shared) (H : Hp) (C : Addr) (cl : List (Str × Addr)) (fp : List Addr), PE (X.blk s H scope (compEnvC scope cl C X.env) fp) elt te) → PS X (.Assign [.Name y py] (.ListComp elt [⟨tg, iter, ifs, 0⟩] scope pos) spos) (tAsg (tLc wi gg tt te (own.map (·.2))) (gName i))) :
    CS X W (.Assign [.Name y py] (.ListComp elt [⟨tg, iter, ifs, 0⟩] scope pos) spos) (sAsg (.one i) (fLc mi (own.map (·.2)) g t e)) := by
  intro ρ μ s σ H D hs hm h
  refine ⟨_, hp pi_w pg_wb pts_wb pe_wb, ?_⟩
  refine lc_reads (W := W) hi hg ht he hsub hs hm ?_
  exact PostS.bind hs h fun u μ1 x H1 ρ1 t1 r1 h1 => h1 _ H1 ρ1 (Stp.refl t1.mem) ((t1.s hs).set r1)

/-! ### a def -/
def spF (K : PySem.W.Frag) (mg : Str → Option Value) (n : Nat) (g : List U → Mem → Res U) : Sp := fun vs H Q E => vs.length = n ∧ ∃ ρ μ us, RepVs K H ρ us vs ∧ RepM K H ρ μ ∧ match g us μ with
  | .ok u μ' => ∀ v H' ρ', Stp K ρ H ρ' H' μ' → RepV K H' ρ' u v → Q v H'
  | .ex c μ' => ∀ cls H' ρ', Stp K ρ H ρ' H' μ' → mg c = some cls → E cls none H'
  | .bad => False
def fDef (n : Nat) (g : List U → Mem → Res U) (a : FA) : FE := fun s μ => (a s μ).bind fun us μ1 => if us.length = n then g us μ1 else .bad
theorem ce_def {f : Addr} {fd : FuncData} {ps : List Str} {g : List U → Mem → Res U} {x : Str} {e : Expr} {es : List Expr} {ma : FA} {p pos : Pos} {j : Nat} (G : Good X W j) (hj : k ≤ j) (F : FnOk X.prog X.w X.K X.mg X.base (L2.CX X.prog X.w) k f fd ps (spF X.K X.mg ps.length g))
    (ha : CA X W (e :: es) ma) (hp : ∀ {E : L2.St → XK} {t : TA}, (∀ σ, PassesAt (L2.CX X.prog X.w) X σ (E σ)) → PA X (e :: es) t → PE X (.Call (.Name x p) (e :: es) [] pos) (tCallS (spF X.K X.mg ps.length g) E t)) :
    CE X W (.Call (.Name x p) (e :: es) [] pos) (fDef ps.length g ma) := by
  intro ρ μ s σ H Q hs hm h
  refine ⟨_, hp (fun σ => passAt G.tk σ) pa_w, ?_⟩
  refine ha ρ μ s σ H _ hs hm (h.bind fun us μ1 vs H1 ρ1 t1 r1 h1 => ?_)
  split at h1
  · rename_i hl
    refine ⟨by rw [← RepVs.length r1]; exact hl, ρ1, μ1, us, r1, t1.mem, ?_⟩
    generalize g us μ1 = z at h1
    cases z with
    | ok u m => exact fun v H' ρ' t r => h1 v H' ρ' t r
    | ex c m => exact fun cls H' ρ' t e => h1 cls H' ρ' t e
    | bad => exact h1
  · exact h1.elim
def runDef (n : Nat) (body : FS) (us : List U) (μ : Mem) : Res U := match body (us.map some ++ List.replicate (n - us.length) none) μ with
  | .nx _ μ' => .ok .non μ'
  | .rt u μ' => .ok u μ'
  | .ex c _ μ' => .ex c μ'
  | _ => .bad
theorem RepS.start {K : PySem.W.Frag} {H : Hp} {ρ : List Addr} {us : List U} {vs : List V} {N : List Str} (r : RepVs K H ρ us vs) : RepS K H ρ (us.map some ++ List.replicate (N.length - us.length) none) (start N vs) := by
  refine ⟨by unfold L2.start; simp [r.length], fun i u e => ?_⟩
  by_cases hi : i < us.length
  · rw [List.getElem?_append_left (by simpa using hi), List.getElem?_map] at e
    cases eu : us[i]? with
    | none => rw [eu] at e; cases e
    | some w =>
      rw [eu] at e
      cases e
      obtain ⟨v, q, rr⟩ := r.get eu
      refine ⟨v, ?_, rr⟩
      unfold L2.start
      rw [List.getElem?_append_left (by rw [List.length_map, ← r.length]; exact hi), List.getElem?_map, q]
      rfl
  · rw [List.getElem?_append_right (by simpa using Nat.le_of_not_lt hi)] at e
    have := List.mem_of_getElem? e
    simp at this
theorem def_ok {P : Program} {w : World} {K : PySem.W.Frag} {mg : Str → Option Value} {base : Heap} {x qual : Str} {st : Stmt} {f : Addr} {fd : FuncData} {N ps : List Str} {k : Nat} {body : FS} (F : Fun K x qual st f fd) (S : FnScope N ps (defScope st))
    (hb : ∀ (cdv : Value) (A : Around) (outer : List Env) (s : Shared) (H : Hp) (E : XK), Good (cxOf (L2.CX P w) P w K mg base N qual (defScope st) f cdv A outer s H E) (fun cls d _ H => E cls d H) k →
      CSs (cxOf (L2.CX P w) P w K mg base N qual (defScope st) f cdv A outer s H E) (fun cls d _ H => E cls d H) (defBody st) body) :
    FnOk P w K mg base (L2.CX P w) (k + 1) f fd ps (spF K mg ps.length (runDef N.length body)) := by
  refine F.okX S (fun vs H Q E h => h.1) (fun cdv A outer s H vs Q E hr h => ?_)
  obtain ⟨hl, ρ, μ, us, r, hm, hq⟩ := h
  have G : Good (cxOf (L2.CX P w) P w K mg base N qual (defScope st) f cdv A outer s H E) (fun cls d _ H => E cls d H) k := ⟨rfl, hr, takes_of rfl rfl rfl rfl, passes_of rfl⟩
  refine hb cdv A outer s H E G ρ μ _ _ H _ (RepS.start r) hm ?_
  unfold runDef at hq
  cases e : body (us.map some ++ List.replicate (N.length - us.length) none) μ with
  | nx s' m => rw [e] at hq; exact fun σ' H' ρ' t _ => hq _ H' ρ' t .non
  | rt u m => rw [e] at hq; exact fun v H' ρ' t r => hq v H' ρ' t r
  | bk s' m => rw [e] at hq; exact hq.elim
  | ct s' m => rw [e] at hq; exact hq.elim
  | ex c s' m => rw [e] at hq; exact fun cls σ' H' ρ' t _ eq => hq cls H' ρ' t eq
  | bad => rw [e] at hq; exact hq.elim
end
end Dg
/-! Dg6: further rules: extend by a tuple, dict copies and displays, reversed copies, constants of the module, the end. -/
namespace Dg
open PySem PySem.Spec PyProof.Rows L2 RZ

/-! ### xs.extend(ys), ys a list or a tuple -/
theorem mt_extendA {X : Cx} : MtR X "list.extend" (fun x vs H Q => ∃ l b xs zs, x = .ref l ∧ vs = [.ref b] ∧ H l = some (.lst xs) ∧ (SqL X.K H b zs ∨ SqT X.K H b zs) ∧ xs.length + zs.length ≤ sizeLine ∧ Q .non (upd H l (.lst (xs ++ zs)))) := by
  intro pins s σ H x vs v us Q I rx rv h
  obtain ⟨l, b, xs, zs, rfl, rfl, hH, hB, hz, q⟩ := h
  cases rx
  obtain ⟨u, rfl, ru⟩ := rv.one
  cases ru
  obtain ⟨z, its, n, r, hl, e⟩ := I.lstM hH
  have main : ∀ (T : String) (hT : T = "list" ∨ T = "tuple") (its2 : List Value) (o : Obj) (n2 : Nat), Vals zs its2 → s.heap.get? b = some o → o.cls = .type T → o.data = .seq its2.toArray n2 →
      wpAny (model X.prog X.w) X.A (call (.builtin "list.extend") [.ref l, .ref b]) (EP X pins σ Q) X.xe s := by
    intro T hT its2 o n2 r2 ho hc hd
    have hsz : its.toArray.size + its2.toArray.size ≤ sizeLine := by
      rw [List.size_toArray, List.size_toArray, ← r.length, ← r2.length]; exact hz
    have hlong : (!its.toArray.isEmpty && Builtin.List.listTooLong (its.toArray.size + its2.toArray.size)) = false := by
      rw [notLongL hsz, Bool.and_false]
    refine call_meets (S := fun _ R s' => s' = s ∧ R (.ok (.ret Value.none)) { s with heap := s.heap.update l (Obj.mapSeq fun x => x ++ its2.toArray) }) F.slot_list_extend ⟨_, e, rfl⟩ F.entry_list_extend (F.args_list_extend_2 _ _) ?_ ⟨rfl, ?_⟩
    · intro prog w A R s' hs
      obtain ⟨rfl, hR⟩ := hs
      show wpAny _ A.in1 (Builtin.List.listExtendWith (.ref l) (.ref b) .none) _ _ _
      unfold Builtin.List.listExtendWith
      refine wpAny_bind (wpAny_typeOf ⟨o, ho, hc⟩ ?_)
      have h1 : (Builtin.List.listSameRef (.ref l) (.ref b) || Value.type T == Value.type "list" || Value.type T == Value.type "tuple") = true := by
        rcases hT with rfl | rfl <;> simp
      simp only [h1, if_true]
      refine wpAny_bind ?_
      unfold Builtin.List.listItems
      refine wpAny_bind (wpAny_seqItems ho hd (wpAny_pure ?_))
      refine wpAny_bind ?_
      refine wpAny_bind (wpAny_seqItems e rfl (wpAny_pure ?_))
      rw [hlong]
      simp only [Bool.false_eq_true, if_false]
      refine wpAny_bind (wpAny_updateSeq e rfl ?_)
      exact wpAny_pure hR
    · refine ⟨.non, _, I.lset (its' := its ++ its2) (t' := s.toks) hH e (by simp) (r.append r2) ?_, rfl, q⟩
      rw [List.length_append]; exact hz
  rcases hB with hB | hB
  · obtain ⟨its2, r2, pl, hz2⟩ := I.list hB
    obtain ⟨o, ho, hc, n2, hd⟩ := pl.isList
    exact main "list" (.inl rfl) its2 o n2 r2 ho hc hd
  · obtain ⟨its2, r2, pl, hz2⟩ := I.tuple hB
    obtain ⟨o, ho, hc, n2, hd⟩ := pl
    exact main "tuple" (.inr rfl) its2 o n2 r2 ho hc hd
section
variable {X : Cx} {W : WX} {k : Nat}
def gExt (u : U) (us : List U) (μ : Mem) : Res U := match u, us with
  | .ref i, [w] => match μ[i]?, seqU μ w with
    | some (.lst xs), some ys => if xs.length + ys.length ≤ lim then .ok .non (μ.set i (.lst (xs ++ ys))) else .bad
    | _, _ => .bad
  | _, _ => .bad
theorem gs_ext : MtS X W "list.extend" gExt := by
  intro ρ μ σ H u us x vs Q hm ru rus h
  unfold gExt at h
  split at h
  · split at h
    · rename_i e e2
      split at h
      · cases ru with
        | ref hr =>
          cases rus with
          | cons r1 r2 =>
            cases r2
            obtain ⟨ws, q, rr⟩ := lst_of hm hr e
            obtain ⟨b, zs, rfl, q2, rr2⟩ := seqU_ok hm r1 e2
            exact ⟨_, mt_extendA, _, b, ws, zs, rfl, rfl, q, q2, by rw [← rr.length, ← rr2.length]; exact lim_le (by assumption), h.ok (putL hm hr e (rr.append rr2)) .non⟩
      · exact h.elim
    · exact h.elim
  · exact h.elim

/-! ### xs[::-1] -/
def fRevL (a : FE) : FE := fun s μ => (a s μ).bind fun u μ1 => match lstU μ1 u with
  | some us => .ok (.ref μ1.length) (μ1 ++ [.lst us.reverse])
  | none => .bad
theorem ce_revL {e : Expr} {me : FE} {j : Nat} {p1 p2 p3 pos : Pos} (he : CE X W e me) : CE X W (.Subscript e (.Slice none none (some (.UnaryOp .USub (.Constant (.int 1) j p1) p2)) p3) pos) (fRevL me) := by
  intro ρ μ s σ H Q hs hm h
  refine ⟨_, pe_revL pe_w, ?_⟩
  refine he ρ μ s σ H _ hs hm (h.bind fun u μ1 x H1 ρ1 t1 r1 h1 => ?_)
  split at h1
  · rename_i us e1
    obtain ⟨a, vs, rfl, q1, r2⟩ := lstU_ok t1.mem r1 e1
    exact ⟨_, _, rfl, q1, fun p np => h1.ok (newL t1.mem np r2.reverse) (refN t1.mem)⟩
  · exact h1.elim

/-! ### dict(d), {}, {k: v, ..} -/
def bDict (us : List U) (μ : Mem) : Res U := match us with
  | [u] => match dctU μ u with
    | some kus => .ok (.ref μ.length) (μ ++ [.dct kus])
    | none => .bad
  | _ => .bad
theorem cs_dict : CallS X W (.type "dict") bDict := by
  intro ρ μ σ H us vs Q hm r h
  unfold bDict at h
  split at h
  · cases r with
    | cons ru r0 =>
      cases r0
      split at h
      · rename_i kus e
        obtain ⟨a, kvs, rfl, q1, r1⟩ := dct_at hm ru e
        exact ⟨_, call_dictD, a, kvs, rfl, .inl q1, fun p np => h.ok (newD hm np r1) (refN hm)⟩
      · exact h.elim
  · exact h.elim
def fD0 : FE := fun _ μ => .ok (.ref μ.length) (μ ++ [.dct []])
theorem ce_d0 {pos : Pos} : CE X W (.Dict [] [] pos) fD0 := fun ρ μ s σ H Q hs hm h => ⟨_, pe_dnewK, fun p np => h.ok (newD hm np RepKV.nil) (refN hm)⟩

/-! ### constants of the module -/
def GlobC (K : PySem.W.Frag) (mg : Str → Option Value) (x : Str) (u : U) : Prop := ∃ z v, mg x = some z ∧ RelV v z ∧ ∀ H ρ, RepV K H ρ u v
theorem ce_globC {x : Str} {u : U} {pos : Pos} (hg : Gl X x) (h : GlobC X.K X.mg x u) (hd : (x == ("__debug__" : Str)) = false := by decide) : CE X W (.Name x pos) (fC u) := by
  obtain ⟨z, v, h1, h2, h3⟩ := h
  exact ce_glob hg h1 h2 h3 hd
/-- a dict of the module with text keys, asked by a key that is there -/
def KTab (K : PySem.W.Frag) (mg : Str → Option Value) (w : World) (x : Str) (tab : List (Str × U)) : Prop := ∃ a, mg x = some (.ref a) ∧ ∀ z u, tab.lookup z = some u → ∃ v, KDct K w a z v ∧ ∀ H ρ, RepV K H ρ u v
def fKGet (tab : List (Str × U)) (i : FE) : FE := fun s μ => (i s μ).bind fun u μ1 => match u with
  | .str z => opt (tab.lookup z) μ1
  | _ => .bad
theorem ce_kget {x : Str} {tab : List (Str × U)} {i : Expr} {mi : FE} {p pos : Pos} (hg : Gl X x) (h : KTab X.K X.mg X.w x tab) (hi : CE X W i mi) (hp : PlainIx i := by exact fun _ _ => rfl) (hd : (x == ("__debug__" : Str)) = false := by decide) :
    CE X W (.Subscript (.Name x p) i pos) (fKGet tab mi) := by
  intro ρ μ s σ H Q hs hm q
  obtain ⟨a, h1, h2⟩ := h
  refine ⟨_, pe_ix ix_kdict (pe_glob hg h1 (v := .ref a) rfl hd) pe_w hp, ?_⟩
  refine hi ρ μ s σ H _ hs hm (q.bind fun u μ1 y H1 ρ1 t1 r1 h3 => ?_)
  split at h3
  · rename_i z
    cases r1
    cases e : tab.lookup z with
    | none => rw [e] at h3; exact h3.elim
    | some w =>
      rw [e] at h3
      obtain ⟨v, h4, h5⟩ := h2 z w e
      exact ⟨a, z, v, rfl, rfl, h4, h3.ok (Stp.refl t1.mem) (h5 _ _)⟩
  · exact h3.elim

/-! ### a def without arguments -/
theorem pe_call0S {f : Addr} {fd : FuncData} {ps : List Str} {sp : Sp} {CX : CXT} {E : L2.St → XK} {x : Str} {p pos : Pos} (F : FnOk X.prog X.w X.K X.mg X.base CX k f fd ps sp) (hr : Room k X.A) (hg : Gl X x) (hm : X.mg x = some (.ref f)) (hk : PySem.W.keepIn X.K (.ref f) = true) (hb : Binds X.K fd ps []) (hx : ∀ σ, PassesAt CX X σ (E σ))
    (hdb : (x == ("__debug__" : Str)) = false := by decide) : PE X (.Call (.Name x p) [] [] pos) (fun σ H Q => sp [] H Q (E σ)) := by
  refine ⟨fun pins s σ H Q I h => ?_⟩
  refine wpAny_Call_Name_kw (ld_glob I hg hm ?_ hdb)
  exact PySem.W.callWith_K0 I.kIn hk (run_fnS (us := []) F hr hb (hx σ) I .nil h)
theorem ce_def0 {f : Addr} {fd : FuncData} {ps : List Str} {g : List U → Mem → Res U} {x : Str} {p pos : Pos} {j : Nat} (G : Good X W j) (F : FnOk X.prog X.w X.K X.mg X.base (L2.CX X.prog X.w) k f fd ps (spF X.K X.mg ps.length g))
    (hp : ∀ {E : L2.St → XK}, (∀ σ, PassesAt (L2.CX X.prog X.w) X σ (E σ)) → PE X (.Call (.Name x p) [] [] pos) (fun σ H Q => spF X.K X.mg ps.length g [] H Q (E σ))) :
    CE X W (.Call (.Name x p) [] [] pos) (fDef ps.length g aNil) := by
  intro ρ μ s σ H Q hs hm h
  refine ⟨_, hp (fun σ => passAt G.tk σ), ?_⟩
  have h1 : Post X W σ relV ρ H (if ([] : List U).length = ps.length then g [] μ else .bad) Q := h
  split at h1
  · rename_i hl
    refine ⟨hl, ρ, μ, [], .nil, hm, ?_⟩
    generalize g [] μ = z at h1
    cases z with
    | ok u m => exact fun v H' ρ' t r => h1 v H' ρ' t r
    | ex c m => exact fun cls H' ρ' t e => h1 cls H' ρ' t e
    | bad => exact h1
  · exact h1.elim

/-! ### a comprehension's frame -/
theorem Good.blk {s : Shared} {H : Hp} {scope : Scope} {cenv : Env} {fp : List Addr} (G : Good X W k) : Good (X.blk s H scope cenv fp) W0 k := ⟨G.calm, ⟨G.room.hd, G.room.dp, G.room.un⟩, takes0, PassesOwn.never⟩
end

/-! ### a def that is never well asked -/
theorem fn_bad {P : Program} {w : World} {K : PySem.W.Frag} {mg : Str → Option Value} {base : Heap} {CX : CXT} {k : Nat} {f : Addr} {fd : FuncData} {ps : List Str} : FnOk P w K mg base CX k f fd ps (spF K mg ps.length fun _ _ => .bad) := by
  have no : ∀ vs H Q E, ¬ spF K mg ps.length (fun _ _ => .bad) vs H Q E := fun vs H Q E ⟨_, _, _, _, _, _, h⟩ => h
  exact ⟨fun vs H Q E h => h.1, fun A outer s H args us vs Q E _ _ _ _ h => absurd h (no vs H Q E)⟩

/-! ### the end of a law -/
theorem end_of {K : PySem.W.Frag} {mg : Str → Option Value} {g : List U → Mem → Res U} {H : Hp} {a : Addr} {ns : List Int} (h : ∃ μ, g [.frl (ns.map U.int)] [] = .ok (.bl true) μ) (ho : Only H) (hS : SqL K H a (ns.map V.int)) :
    spF K mg 1 g [.ref a] H (fun v _ => v = .bl true) fun _ _ _ => False := by
  obtain ⟨μ, e⟩ := h
  have fr : FrL K H a (ns.map V.int) := by
    rcases hS with (h | ⟨o, h⟩) | h
    · rcases ho a with q | ⟨o, xs, q⟩ <;> (rw [h] at q; cases q)
    · exact .inl ⟨o, h⟩
    · exact .inr h
  refine ⟨rfl, [], [], [.frl (ns.map U.int)], .one (.frl fr (RepVs.ofInts ns)), ⟨rfl, List.nodup_nil, fun i c e => by simp at e⟩, ?_⟩
  rw [e]
  intro v H' ρ' _ r
  cases r
  rfl

/-! ### built-ins by name -/
theorem bt_len : bootBuiltins "len" = some (.builtin "len") := by decide +kernel
theorem bt_abs : bootBuiltins "abs" = some (.builtin "abs") := by decide +kernel
theorem bt_max : bootBuiltins "max" = some (.builtin "max") := by decide +kernel
theorem bt_min : bootBuiltins "min" = some (.builtin "min") := by decide +kernel
theorem bt_sum : bootBuiltins "sum" = some (.builtin "sum") := by decide +kernel
theorem bt_all : bootBuiltins "all" = some (.builtin "all") := by decide +kernel
theorem bt_any : bootBuiltins "any" = some (.builtin "any") := by decide +kernel
theorem bt_sorted : bootBuiltins "sorted" = some (.builtin "sorted") := by decide +kernel
theorem bt_isinstance : bootBuiltins "isinstance" = some (.builtin "isinstance") := by decide +kernel
theorem bt_int : bootBuiltins "int" = some (.type "int") := by decide +kernel
theorem bt_bool : bootBuiltins "bool" = some (.type "bool") := by decide +kernel
theorem bt_str : bootBuiltins "str" = some (.type "str") := by decide +kernel
theorem bt_list : bootBuiltins "list" = some (.type "list") := by decide +kernel
theorem bt_tuple : bootBuiltins "tuple" = some (.type "tuple") := by decide +kernel
theorem bt_dict : bootBuiltins "dict" = some (.type "dict") := by decide +kernel
theorem kt_int : ∀ t ∈ ["NoneType", "bool", "int", "str", "tuple", "list", "dict"], kitB t "int" = some (isTy "int" t) := by decide +kernel
theorem kt_bool : ∀ t ∈ ["NoneType", "bool", "int", "str", "tuple", "list", "dict"], kitB t "bool" = some (isTy "bool" t) := by decide +kernel
theorem kt_str : ∀ t ∈ ["NoneType", "bool", "int", "str", "tuple", "list", "dict"], kitB t "str" = some (isTy "str" t) := by decide +kernel
theorem kt_list : ∀ t ∈ ["NoneType", "bool", "int", "str", "tuple", "list", "dict"], kitB t "list" = some (isTy "list" t) := by decide +kernel
theorem kt_tuple : ∀ t ∈ ["NoneType", "bool", "int", "str", "tuple", "list", "dict"], kitB t "tuple" = some (isTy "tuple" t) := by decide +kernel
theorem kt_dict : ∀ t ∈ ["NoneType", "bool", "int", "str", "tuple", "list", "dict"], kitB t "dict" = some (isTy "dict" t) := by decide +kernel
end Dg
/-! Dg7: the head's facts for the mirror: constants by value, tables, defs. -/
namespace Dg
open PySem PySem.Spec PyProof.Rows L2 RZ

/-! ### a value of the written part is one of the mirror's -/
def repB (K : PySem.W.Frag) : Nat → Value → U → Bool
  | 0, _, _ => false
  | n + 1, v, u => match u with
    | .non => (match v with
      | .none => true
      | _ => false)
    | .bl b => (match v with
      | .bool c => decide (c = b)
      | _ => false)
    | .int i => (match v with
      | .int j _ => decide (j = i)
      | _ => false)
    | .str x => (match v with
      | .str y _ => decide (y = x) && PyData.strOk x
      | _ => false)
    | .tup us => (match v with
      | .ref a => (match K.lookup a with
        | some ⟨.type c, _, .seq its _, _⟩ => decide (c = "tuple") && (Nat.ble its.size 1000 && (decide (its.toList.length = us.length) && (its.toList.zip us).all fun p => repB K n p.1 p.2))
        | _ => false)
      | _ => false)
    | _ => false
def Reps (K : PySem.W.Frag) (v : Value) (u : U) : Prop := ∃ x, RelV x v ∧ ∀ H ρ, RepV K H ρ u x
theorem reps_all {K : PySem.W.Frag} {n : Nat} (ih : ∀ v u, repB K n v u = true → Reps K v u) : ∀ (its : List Value) (us : List U), its.length = us.length → ((its.zip us).all fun p => repB K n p.1 p.2) = true → ∃ vs, Vals vs its ∧ ∀ H ρ, RepVs K H ρ us vs
  | [], [], _, _ => ⟨[], .nil, fun _ _ => .nil⟩
  | [], _ :: _, h, _ => by simp at h
  | _ :: _, [], h, _ => by simp at h
  | v :: its, u :: us, h, q => by
    simp only [List.zip_cons_cons, List.all_cons, Bool.and_eq_true] at q
    obtain ⟨x, r1, r2⟩ := ih v u q.1
    obtain ⟨vs, s1, s2⟩ := reps_all ih its us (by simpa using h) q.2
    exact ⟨x :: vs, .cons r1 s1, fun H ρ => .cons (r2 H ρ) (s2 H ρ)⟩
theorem repB_ok {K : PySem.W.Frag} : ∀ (n : Nat) (v : Value) (u : U), repB K n v u = true → Reps K v u
  | 0, _, _, h => by simp [repB] at h
  | n + 1, v, u, h => by
    cases u with
    | non => cases v <;> first | exact ⟨.non, rfl, fun _ _ => .non⟩ | (simp [repB] at h)
    | bl b => cases v <;> first | (simp [repB] at h; subst h; exact ⟨.bl _, rfl, fun _ _ => .bl⟩) | (simp [repB] at h)
    | int i => cases v <;> first | (simp [repB] at h; subst h; exact ⟨.int _, ⟨_, rfl⟩, fun _ _ => .int⟩) | (simp [repB] at h)
    | str x => cases v <;> first | (simp [repB] at h; obtain ⟨h1, h2⟩ := h; subst h1; exact ⟨.str _, ⟨_, rfl⟩, fun _ _ => .str h2⟩) | (simp [repB] at h)
    | tup us =>
      cases v with
      | ref a =>
        simp only [repB] at h
        split at h
        · rename_i o c od its m sl e
          simp only [Bool.and_eq_true, decide_eq_true_eq] at h
          obtain ⟨h1, h2, h3, h4⟩ := h
          subst h1
          obtain ⟨vs, s1, s2⟩ := reps_all (fun v u q => repB_ok n v u q) its.toList us h3 h4
          refine ⟨.ref a, rfl, fun H ρ => .tup (.inr ⟨_, its, m, e, rfl, rfl, ?_, s1⟩) (s2 H ρ)⟩
          exact Nat.le_trans (Nat.le_of_ble_eq_true h2) (by decide)
        · cases h
      | _ => simp [repB] at h
    | ref i => simp [repB] at h
    | frl us => simp [repB] at h

/-! ### the facts -/
def keyN (e : DictEntry) : Option Str := match e.key with
  | .str x _ => some x
  | _ => none
def keysB (K : PySem.W.Frag) (a : Addr) (ks : List Str) : Bool := match K.lookup a with
  | some ⟨_, _, .dict es _, _⟩ => decide (es.toList.map keyN = ks.map some)
  | _ => false
inductive FaU where
  | con (x : Str) (u : U)
  | tab (x : Str) (kvs : List (Str × U))
  | isx (x y : Str) (b : Bool)
  | isv (x y : Str) (b : Bool)
  | keys (x : Str) (ks : List Str)
def exC (K : PySem.W.Frag) (D : Addr) : Bool := He.eqO (PySem.W.findIn K (.ref D) "__getattribute__") (some (some (.builtin "BaseException.__getattribute__"))) && (He.eqO (PySem.W.findIn K (.ref D) "__getattr__") (some none) &&
  (decide (PySem.W.subIn K (.ref D) (.type "BaseException") = some true) && (PySem.W.hasDictIn K D && (He.eqO (PySem.W.findIn K (.ref D) "__class__") (some (some (.builtin "object.__class__"))) &&
  (He.eqO (PySem.W.specialIn K (.builtin "object.__class__") "__get__") (some (some (.builtin "getset_descriptor.__get__"))) && (decide (PySem.W.takesIn K (.builtin "object.__class__") = some true) && decide (PySem.W.mroIn K D (.type "object") = some true)))))))
def FaU.ok (K : PySem.W.Frag) : FaU → Bool
  | .con x u => (match PySem.W.nsIn K mainGlobals x with
    | some (some v) => repB K 12 v u
    | _ => false)
  | .tab x kvs => kvs.all fun q => (match PySem.W.nsIn K (He.ga K x) q.1 with
    | some (some v) => repB K 12 v q.2
    | _ => false)
  | .isx x y b => exC K (He.ga K x) && decide (PySem.W.kitOne K (.ref (He.ga K x)) (.ref (He.ga K y)) = some b)
  | .isv x y b => exC K (He.ga K x) && decide (y = ("ValueError" : Str)) && decide (PySem.W.kitOne K (.ref (He.ga K x)) (.type "ValueError") = some b)
  | .keys x ks => keysB K (He.ga K x) ks
abbrev AlU : Type := He.AlT × Bool
def obsU (fa : List He.Fa) (fn : List He.DefD) (ts : List He.Tab) (fu : List FaU) (K : PySem.W.Frag) : AlU := (He.obsT fa fn ts K, fu.all fun f => f.ok K)
def valU' (fn : List He.DefD) (ts : List He.Tab) (w : World) : AlU := (He.valT fn ts w, true)
def SaysU (fa : List He.Fa) (fn : List He.DefD) (ts : List He.Tab) (fu : List FaU) (w : World) (K : PySem.W.Frag) : Prop := obsU fa fn ts fu K = valU' fn ts w
def obsUG (n : Nat) (fa : List He.Fa) (fn : List He.DefD) (ts : List He.Tab) (fu : List FaU) (g : Addr → Option Obj) : AlU := obsU fa fn ts fu (He.frG g (He.asD g n))
def hookU (n : Nat) (fa : List He.Fa) (fn : List He.DefD) (ts : List He.Tab) (fu : List FaU) : PySem.W.Hook where
  α := AlU
  obs := fun s => obsUG n fa fn ts fu s.heap.get?
  val := fun w => valU' fn ts w
  says := fun w h => ∃ K : PySem.W.Frag, K.In h ∧ SaysU fa fn ts fu w K
  of := fun _ _ e => ⟨_, He.frG_in, e⟩
  keeps := fun _ _ _ ⟨K, hK, c⟩ k => ⟨K, PySem.W.Frag.In.keeps hK k, c⟩
theorem obsUG_eq {n : Nat} {fa : List He.Fa} {fn : List He.DefD} {ts : List He.Tab} {fu : List FaU} {g : Addr → Option Obj} {s : Shared} (h : ∀ a, g a = s.heap.get? a) : obsUG n fa fn ts fu g = (hookU n fa fn ts fu).obs s := by
  have e : g = s.heap.get? := funext h
  rw [e] <;> rfl
section
variable {fa : List He.Fa} {fn : List He.DefD} {ts : List He.Tab} {fu : List FaU} {w : World} {K : PySem.W.Frag} {h : Heap} {mg : Str → Option Value}
theorem SaysU.t (c : SaysU fa fn ts fu w K) : He.SaysT fa fn ts w K := congrArg (fun z : AlU => z.1) c
theorem SaysU.f (c : SaysU fa fn ts fu w K) (i : Nat) {f : FaU} (hf : fu[i]? = some f := by rfl) : f.ok K = true := by
  have e : (fu.all fun f => f.ok K) = true := congrArg (fun z : AlU => z.2) c
  exact List.all_eq_true.mp e f (List.mem_of_getElem? hf)
theorem con_ok (X : K.In h) (G : h.Ns mainGlobals mg) {x : Str} {u : U} (c : (FaU.con x u).ok K = true) : GlobC K mg x u := by
  simp only [FaU.ok] at c
  cases e : PySem.W.nsIn K mainGlobals x with
  | none => rw [e] at c; cases c
  | some r =>
    rw [e] at c
    cases r with
    | none => cases c
    | some v =>
      obtain ⟨y, r1, r2⟩ := repB_ok 12 v u c
      exact ⟨v, y, PySem.W.mg_of X G e, r1, r2⟩
theorem tab_ok (X : K.In h) (G : h.Ns mainGlobals mg) {x : Str} {kvs : List (Str × U)} {es : Array DictEntry} {n : Nat} (c : (FaU.tab x kvs).ok K = true) (g : (He.Fa.glo x).ok K = true) (D : KDict K w (He.ga K x) es n) : KTab K mg w x kvs := by
  refine ⟨He.ga K x, He.glo_ok X G g, fun z u hz => ?_⟩
  have hm : (z, u) ∈ kvs := by
    clear c
    induction kvs with
    | nil => cases hz
    | cons p r ih =>
      rw [List.lookup_cons] at hz
      split at hz
      · rename_i e
        cases hz
        have e2 := beq_iff_eq.mp e
        subst e2
        exact List.mem_cons_self
      · exact List.mem_cons_of_mem _ (ih hz)
  simp only [FaU.ok] at c
  have q := List.all_eq_true.mp c (z, u) hm
  simp only at q
  cases e : PySem.W.nsIn K (He.ga K x) z with
  | none => rw [e] at q; cases q
  | some r =>
    rw [e] at q
    cases r with
    | none => cases q
    | some v =>
      obtain ⟨y, r1, r2⟩ := repB_ok 12 v u q
      exact ⟨y, ⟨es, n, v, D.at_, D.lit, e, r1⟩, r2⟩
end

/-! ### a def by its body, from such facts -/
abbrev FnP (K : PySem.W.Frag) (x : Str) (st : Stmt) (f : Addr) (fd : FuncData) : Prop := FunD K x x (defArgs st) (defBody st) (defScope st) [] [] f fd
theorem defD_ok {P : Program} {w : World} {K : PySem.W.Frag} {mg : Str → Option Value} {base : Heap} {x : Str} {st : Stmt} {f : Addr} {fd : FuncData} {N ps : List Str} {k : Nat} {body : FS} (F : FnP K x st f fd) (S : FnScope N ps (defScope st))
    (hb : ∀ (cdv : Value) (A : Around) (outer : List Env) (s : Shared) (H : Hp) (E : XK), Good (cxOf (L2.CX P w) P w K mg base N x (defScope st) f cdv A outer s H E) (fun cls d _ H => E cls d H) k →
      CSs (cxOf (L2.CX P w) P w K mg base N x (defScope st) f cdv A outer s H E) (fun cls d _ H => E cls d H) (defBody st) body) :
    FnOk P w K mg base (L2.CX P w) (k + 1) f fd ps (spF K mg ps.length (runDef N.length body)) := by
  refine F.ok S (fun vs H Q E h => h.1) (fun cdv A outer s H vs Q E hr h => ?_)
  obtain ⟨hl, ρ, μ, us, r, hm, hq⟩ := h
  have G : Good (cxOf (L2.CX P w) P w K mg base N x (defScope st) f cdv A outer s H E) (fun cls d _ H => E cls d H) k := ⟨rfl, hr, takes_of rfl rfl rfl rfl, passes_of rfl⟩
  refine hb cdv A outer s H E G ρ μ _ _ H _ (RepS.start r) hm ?_
  unfold runDef at hq
  cases e : body (us.map some ++ List.replicate (N.length - us.length) none) μ with
  | nx s' m => rw [e] at hq; exact fun σ' H' ρ' t _ => hq _ H' ρ' t .non
  | rt u m => rw [e] at hq; exact fun v H' ρ' t r => hq v H' ρ' t r
  | bk s' m => rw [e] at hq; exact hq.elim
  | ct s' m => rw [e] at hq; exact hq.elim
  | ex c s' m => rw [e] at hq; exact fun cls σ' H' ρ' t _ eq => hq cls H' ρ' t eq
  | bad => rw [e] at hq; exact hq.elim
/-- the end over a head by facts, what a def lets out told by the world -/
theorem walk_dg {l : PySem.W.OpenLaw} {n k : Nat} {q : Program} {loose : List Str} {XP : (Str → Option Value) → Heap → Prop} {YP : World → Heap → Prop} {d : DefRec} {CX : World → CXT} {x : Str}
    (hn : l.most = some n) (hl : n ≤ sizeLine) (hdf : d.params.defaults = []) (hr : Room k callerA) (hCX : ∀ (w : World) (H : Hp) (s : Shared) (e : Value) (s' : Shared), CX w [] H s (fun _ _ _ => False) e s' → False)
    (F : ∀ (w : World) (mg : Str → Option Value) (fa : Addr) (h : Heap), YP w h → h.Ns mainGlobals mg → mg d.name = some (.ref fa) → ∃ (K : PySem.W.Frag) (fd : FuncData) (sp : Sp), K.In h ∧
      (∀ (s : Shared) (u : Value), BindsTo s fd ⟨[u], []⟩ [(x, u)]) ∧ (∀ (H : Hp) (a : Addr) (ns : List Int), ns.length ≤ n → Only H → SqL K H a (ns.map V.int) → sp [.ref a] H (fun v _ => v = .bl true) fun _ _ _ => False) ∧
      ∀ base : Heap, K.In base → base.Ns mainGlobals mg → FnOk l.prog w K mg base (CX w) k fa fd [x] sp) :
    PySem.W.WalkO q loose XP YP l.row.toRowW d [] (fun f vs => PySem.call f vs) := by
  refine Att.attach_call hn hdf fun w s0 s1 mg mb fa o pm cd doc a vs ns G Y ho hd hcd hmg hob hi hle hg => ?_
  obtain ⟨K, fd, sp, KX, hb, hsp, hF⟩ := F w mg fa _ Y G.T.g hmg
  refine law_call KX G.T.g G.T.b G.T.builtins G.T.nolimit hg hob hi (Nat.le_trans hle hl) hr hF hb ?_ ?_
  · exact fun H hO hS => hsp H a ns hle hO hS
  · exact fun H e s' => hCX w H s1 e s'
theorem cx_none {P : Program} {w : World} (H : Hp) (s : Shared) (e : Value) (s' : Shared) (h : L2.CX P w [] H s (fun _ _ _ => False) e s') : False := by
  obtain ⟨_, _, _, _, _, _, _, _, _, _, _, _, z⟩ := h
  exact z.elim
end Dg
/-! Dg8: reckoning with mirrors: what is wanted behind an expression, a statement. -/
namespace Dg
open PySem PySem.Spec PyProof.Rows L2 RZ

def wpE {α : Type} (r : Res α) (Q : α → Mem → Prop) (E : Str → Mem → Prop) : Prop := match r with
  | .ok a μ => Q a μ
  | .ex c μ => E c μ
  | .bad => False
structure Dn where
  nx : Slots → Mem → Prop
  rt : U → Mem → Prop
  bk : Slots → Mem → Prop
  ct : Slots → Mem → Prop
  ex : Str → Slots → Mem → Prop
def wpS (o : Out) (D : Dn) : Prop := match o with
  | .nx s μ => D.nx s μ
  | .rt u μ => D.rt u μ
  | .bk s μ => D.bk s μ
  | .ct s μ => D.ct s μ
  | .ex c s μ => D.ex c s μ
  | .bad => False
section
variable {α β : Type} {s : Slots} {μ : Mem} {E : Str → Mem → Prop} {D : Dn}
theorem wpE.mono {r : Res α} {Q Q' : α → Mem → Prop} (h : wpE r Q E) (k : ∀ a μ', Q a μ' → Q' a μ') : wpE r Q' E := by
  cases r with
  | ok a m => exact k a m h
  | ex c m => exact h
  | bad => exact h
theorem wpE.get {r : Res α} {Q : α → Mem → Prop} (h : wpE r Q fun _ _ => False) : ∃ a μ', r = .ok a μ' ∧ Q a μ' := by
  cases r with
  | ok a m => exact ⟨a, m, rfl, h⟩
  | ex c m => exact h.elim
  | bad => exact h.elim
theorem wpE.of {r : Res α} {Q : α → Mem → Prop} {a : α} {μ' : Mem} (e : r = .ok a μ') (q : Q a μ') : wpE r Q E := by
  rw [e]; exact q
theorem wpS.mono {o : Out} {D D' : Dn} (h : wpS o D) (n : ∀ s μ, D.nx s μ → D'.nx s μ) (r : ∀ u μ, D.rt u μ → D'.rt u μ) (b : ∀ s μ, D.bk s μ → D'.bk s μ) (c : ∀ s μ, D.ct s μ → D'.ct s μ) (e : ∀ x s μ, D.ex x s μ → D'.ex x s μ) : wpS o D' := by
  cases o with
  | nx s m => exact n s m h
  | rt u m => exact r u m h
  | bk s m => exact b s m h
  | ct s m => exact c s m h
  | ex x s m => exact e x s m h
  | bad => exact h
theorem w_bind {r : Res α} {k : α → Mem → Res β} {Q : β → Mem → Prop} : wpE (r.bind k) Q E = wpE r (fun a μ => wpE (k a μ) Q E) E := by cases r <;> rfl
theorem w_var {i : Nat} {Q : U → Mem → Prop} : wpE (fVar i s μ) Q E = ∃ u, s[i]? = some (some u) ∧ Q u μ := by
  unfold fVar
  split
  · rename_i u e
    apply propext
    exact ⟨fun q => ⟨u, e, q⟩, fun ⟨w, e2, q⟩ => by rw [e] at e2; cases e2; exact q⟩
  · rename_i h
    apply propext
    exact ⟨fun q => q.elim, fun ⟨w, e2, q⟩ => absurd e2 (h w)⟩
theorem w_c {u : U} {Q : U → Mem → Prop} : wpE (fC u s μ) Q E = Q u μ := propext ⟨fun h => h, fun h => h⟩
theorem w_op {f : U → U → Mem → Res U} {a b : FE} {Q : U → Mem → Prop} : wpE (fOp f a b s μ) Q E = wpE (a s μ) (fun u μ1 => wpE (b s μ1) (fun w μ2 => wpE (f u w μ2) Q E) E) E := by
  unfold fOp; rw [w_bind]; congr 1; funext u μ1; rw [w_bind]
theorem w_res {α : Type} {o : Option α} {Q : α → Mem → Prop} : wpE (opt o μ) Q E = ∃ a, o = some a ∧ Q a μ := by
  cases o with
  | none => apply propext; exact ⟨fun h => h.elim, fun ⟨a, e, _⟩ => nomatch e⟩
  | some a => apply propext; exact ⟨fun h => ⟨a, rfl, h⟩, fun ⟨b, e, h⟩ => by cases e; exact h⟩
theorem w_resB {o : Option Bool} {Q : U → Mem → Prop} : wpE (Dg.resB o μ) Q E = ∃ b, o = some b ∧ Q (.bl b) μ := by
  cases o with
  | none => apply propext; exact ⟨fun h => h.elim, fun ⟨a, e, _⟩ => nomatch e⟩
  | some a => apply propext; exact ⟨fun h => ⟨a, rfl, h⟩, fun ⟨b, e, h⟩ => by cases e; exact h⟩
theorem w_eq {u w : U} {Q : U → Mem → Prop} : wpE (uEq u w μ) Q E = ∃ b, eqU u w μ = some b ∧ Q (.bl b) μ := w_resB
theorem w_ne {u w : U} {Q : U → Mem → Prop} : wpE (uNe u w μ) Q E = ∃ b, eqU u w μ = some b ∧ Q (.bl (!b)) μ := by
  unfold uNe; rw [w_resB]
  apply propext
  constructor
  · rintro ⟨b, e, q⟩
    cases h : eqU u w μ with
    | none => rw [h] at e; cases e
    | some c => rw [h] at e; cases e; exact ⟨c, rfl, q⟩
  · rintro ⟨b, e, q⟩
    exact ⟨!b, by rw [e]; rfl, q⟩
theorem w_in {u w : U} {Q : U → Mem → Prop} : wpE (uIn u w μ) Q E = ∃ b, inU u w μ = some b ∧ Q (.bl b) μ := w_resB
theorem w_nin {u w : U} {Q : U → Mem → Prop} : wpE (uNin u w μ) Q E = ∃ b, inU u w μ = some b ∧ Q (.bl (!b)) μ := by
  unfold uNin; rw [w_resB]
  apply propext
  constructor
  · rintro ⟨b, e, q⟩
    cases h : inU u w μ with
    | none => rw [h] at e; cases e
    | some c => rw [h] at e; cases e; exact ⟨c, rfl, q⟩
  · rintro ⟨b, e, q⟩
    exact ⟨!b, by rw [e]; rfl, q⟩
theorem eq_str {a b : Str} : eqU (.str a) (.str b) μ = some (decide (a = b)) := by
  have : eqU (.str a) (.str b) μ = some (PyData.eqv (.str a) (.str b)) := rfl
  rw [this]
  congr 1
theorem eq_int {a b : Int} : eqU (.int a) (.int b) μ = some (decide (a = b)) := by
  have : eqU (.int a) (.int b) μ = some (PyData.eqv (.int a) (.int b)) := rfl
  rw [this]
  congr 1
theorem w_addI {i j : Int} {Q : U → Mem → Prop} : wpE (uAdd (.int i) (.int j) μ) Q E = Q (.int (i + j)) μ := propext ⟨fun h => h, fun h => h⟩
theorem w_subI {i j : Int} {Q : U → Mem → Prop} : wpE (uSub (.int i) (.int j) μ) Q E = Q (.int (i - j)) μ := propext ⟨fun h => h, fun h => h⟩
theorem w_mulI {i j : Int} {Q : U → Mem → Prop} : wpE (uMul (.int i) (.int j) μ) Q E = ((big64 i || big64 j) = true ∧ Q (.int (i * j)) μ) := by
  show wpE (if (big64 i || big64 j) = true then _ else _) Q E = _
  split
  · rename_i h; simp [h, wpE]
  · rename_i h; simp [h, wpE]
theorem w_modI {i j : Int} {Q : U → Mem → Prop} : wpE (uMod (.int i) (.int j) μ) Q E = (j ≠ 0 ∧ Q (.int (i.fmod j)) μ) := by
  show wpE (if j ≠ 0 then _ else _) Q E = _
  split
  · rename_i h; simp [h, wpE]
  · rename_i h; simp [h, wpE]
theorem w_fdivI {i j : Int} {Q : U → Mem → Prop} : wpE (uFdiv (.int i) (.int j) μ) Q E = ((j ≠ 0 ∧ j.natAbs < 1073741824) ∧ Q (.int (i.fdiv j)) μ) := by
  show wpE (if j ≠ 0 ∧ j.natAbs < 1073741824 then _ else _) Q E = _
  split
  · rename_i h; simp [h, wpE]
  · rename_i h; simp only [h, wpE]; simp
theorem w_ltI {i j : Int} {Q : U → Mem → Prop} : wpE (uLt (.int i) (.int j) μ) Q E = Q (.bl (decide (i < j))) μ := propext ⟨fun h => h, fun h => h⟩
theorem w_leI {i j : Int} {Q : U → Mem → Prop} : wpE (uLe (.int i) (.int j) μ) Q E = Q (.bl (decide (i ≤ j))) μ := propext ⟨fun h => h, fun h => h⟩
theorem w_gtI {i j : Int} {Q : U → Mem → Prop} : wpE (uGt (.int i) (.int j) μ) Q E = Q (.bl (decide (j < i))) μ := propext ⟨fun h => h, fun h => h⟩
theorem w_geI {i j : Int} {Q : U → Mem → Prop} : wpE (uGe (.int i) (.int j) μ) Q E = Q (.bl (decide (j ≤ i))) μ := propext ⟨fun h => h, fun h => h⟩
/-! items -/
theorem w_ixT {us : List U} {i : Int} {Q : U → Mem → Prop} : wpE (ixU (.tup us) (.int i) μ) Q E = ∃ a, atI us i = some a ∧ Q a μ := w_res
theorem ix_L {r : Nat} {us : List U} {i : Int} (h : μ[r]? = some (.lst us)) : ixU (.ref r) (.int i) μ = opt (atI us i) μ := by
  unfold ixU dctU seqU
  simp only [h]
theorem w_ixL {r : Nat} {us : List U} {i : Int} {Q : U → Mem → Prop} (h : μ[r]? = some (.lst us)) : wpE (ixU (.ref r) (.int i) μ) Q E = ∃ a, atI us i = some a ∧ Q a μ := by rw [ix_L h, w_res]
theorem w_ixD {r : Nat} {kvs : List (Key × U)} {x : Str} {Q : U → Mem → Prop} (h : μ[r]? = some (.dct kvs)) : wpE (ixU (.ref r) (.str x) μ) Q E = ∃ a, valU kvs (.inr x) = some a ∧ Q a μ := by
  have : ixU (.ref r) (.str x) μ = opt (valU kvs (.inr x)) μ := by
    unfold ixU dctU
    simp only [h, keyU]
  rw [this, w_res]
/-! calls -/
theorem w_call {g : List U → Mem → Res U} {a : FA} {Q : U → Mem → Prop} : wpE (fCall g a s μ) Q E = wpE (a s μ) (fun us μ1 => wpE (g us μ1) Q E) E := w_bind
theorem w_def {n : Nat} {g : List U → Mem → Res U} {a : FA} {Q : U → Mem → Prop} : wpE (fDef n g a s μ) Q E = wpE (a s μ) (fun us μ1 => us.length = n ∧ wpE (g us μ1) Q E) E := by
  unfold fDef; rw [w_bind]; congr 1; funext us μ1
  split
  · rename_i h; simp [h]
  · rename_i h; simp [h, wpE]
theorem w_anil {Q : List U → Mem → Prop} : wpE (aNil s μ) Q E = Q [] μ := propext ⟨fun h => h, fun h => h⟩
theorem w_acons {a : FE} {r : FA} {Q : List U → Mem → Prop} : wpE (aCons a r s μ) Q E = wpE (a s μ) (fun u μ1 => wpE (r s μ1) (fun us μ2 => Q (u :: us) μ2) E) E := by
  unfold aCons; rw [w_bind]; congr 1; funext u μ1; rw [w_bind]; rfl
theorem w_tup {a : FA} {Q : U → Mem → Prop} : wpE (fTup a s μ) Q E = wpE (a s μ) (fun us μ1 => us.length ≤ lim ∧ Q (.tup us) μ1) E := by
  unfold fTup; rw [w_bind]; congr 1; funext us μ1
  split
  · rename_i h; simp [h, wpE]
  · rename_i h; simp [h, wpE]
theorem w_lst {a : FA} {Q : U → Mem → Prop} : wpE (fLst a s μ) Q E = wpE (a s μ) (fun us μ1 => us.length ≤ lim ∧ Q (.ref μ1.length) (μ1 ++ [.lst us])) E := by
  unfold fLst; rw [w_bind]; congr 1; funext us μ1
  split
  · rename_i h; simp [h, wpE]
  · rename_i h; simp [h, wpE]
theorem w_int {i : Int} {Q : U → Mem → Prop} : wpE (bInt [.int i] μ) Q E = Q (.int i) μ := propext ⟨fun h => h, fun h => h⟩
theorem w_intB {b : Bool} {Q : U → Mem → Prop} : wpE (bInt [.bl b] μ) Q E = Q (.int (if b then 1 else 0)) μ := propext ⟨fun h => h, fun h => h⟩
theorem w_lenT {us : List U} {Q : U → Mem → Prop} : wpE (bLen [.tup us] μ) Q E = Q (.int us.length) μ := propext ⟨fun h => h, fun h => h⟩
theorem w_lenL {r : Nat} {us : List U} {Q : U → Mem → Prop} (h : μ[r]? = some (.lst us)) : wpE (bLen [.ref r] μ) Q E = Q (.int us.length) μ := by
  have : bLen [.ref r] μ = .ok (.int us.length) μ := by unfold bLen lenU; simp only [h]
  rw [this]; rfl
theorem w_tupleL {r : Nat} {us : List U} {Q : U → Mem → Prop} (h : μ[r]? = some (.lst us)) : wpE (bTuple [.ref r] μ) Q E = Q (.tup us) μ := by
  have : bTuple [.ref r] μ = .ok (.tup us) μ := by unfold bTuple seqU; simp only [h]
  rw [this]; rfl
theorem w_dictD {r : Nat} {kvs : List (Key × U)} {Q : U → Mem → Prop} (h : μ[r]? = some (.dct kvs)) : wpE (bDict [.ref r] μ) Q E = Q (.ref μ.length) (μ ++ [.dct kvs]) := by
  have : bDict [.ref r] μ = .ok (.ref μ.length) (μ ++ [.dct kvs]) := by unfold bDict dctU; simp only [h]
  rw [this]; rfl
theorem w_d0 {Q : U → Mem → Prop} : wpE (fD0 s μ) Q E = Q (.ref μ.length) (μ ++ [.dct []]) := propext ⟨fun h => h, fun h => h⟩
theorem w_app {o : FE} {a : FA} {Q : U → Mem → Prop} {g : U → List U → Mem → Res U} : wpE (fMtL g o a s μ) Q E = wpE (o s μ) (fun u μ1 => ∃ us, lstU μ1 u = some us ∧ wpE (a s μ1) (fun us μ2 => wpE (g u us μ2) Q E) E) E := by
  unfold fMtL; rw [w_bind]; congr 1; funext u μ1
  cases e : lstU μ1 u with
  | none => simp [wpE]
  | some us => simp only [w_bind]; simp
theorem lstU_L {r : Nat} {us : List U} (h : μ[r]? = some (.lst us)) : lstU μ (.ref r) = some us := by unfold lstU; simp only [h]
theorem w_append {r : Nat} {us : List U} {w : U} {Q : U → Mem → Prop} (h : μ[r]? = some (.lst us)) (hl : us.length < lim) : wpE (gAppend (.ref r) [w] μ) Q E = Q .non (μ.set r (.lst (us ++ [w]))) := by
  have : gAppend (.ref r) [w] μ = .ok .non (μ.set r (.lst (us ++ [w]))) := by unfold gAppend; simp only [h, hl, if_true]
  rw [this]; rfl
theorem w_pop {r : Nat} {us : List U} {w : U} {Q : U → Mem → Prop} (h : μ[r]? = some (.lst (us ++ [w]))) : wpE (gPop (.ref r) [] μ) Q E = Q w (μ.set r (.lst us)) := by
  have : gPop (.ref r) [] μ = .ok w (μ.set r (.lst us)) := by
    unfold gPop
    simp only [h]
    simp
  rw [this]; rfl
theorem w_extT {r : Nat} {us ws : List U} {Q : U → Mem → Prop} (h : μ[r]? = some (.lst us)) (hl : us.length + ws.length ≤ lim) : wpE (gExt (.ref r) [.tup ws] μ) Q E = Q .non (μ.set r (.lst (us ++ ws))) := by
  have : gExt (.ref r) [.tup ws] μ = .ok .non (μ.set r (.lst (us ++ ws))) := by unfold gExt seqU; simp only [h, hl, if_true]
  rw [this]; rfl
/-! tests -/
theorem w_tstB {a : FE} {Q : Bool → Mem → Prop} : wpE (tstB a s μ) Q E = wpE (a s μ) (fun u μ1 => ∃ b, u = .bl b ∧ Q b μ1) E := by
  unfold tstB; rw [w_bind]; congr 1; funext u μ1
  cases u <;> simp [wpE]
theorem w_tst {a : FE} {Q : Bool → Mem → Prop} : wpE (tst a s μ) Q E = wpE (a s μ) (fun u μ1 => ∃ b, truU μ1 u = some b ∧ Q b μ1) E := by
  unfold tst; rw [w_bind]; congr 1; funext u μ1
  cases truU μ1 u <;> simp [wpE]
theorem w_nt {t : FT} {Q : Bool → Mem → Prop} : wpE (tNt t s μ) Q E = wpE (t s μ) (fun b μ1 => Q (!b) μ1) E := w_bind
theorem w_an {t u : FT} {Q : Bool → Mem → Prop} : wpE (tAn t u s μ) Q E = wpE (t s μ) (fun b μ1 => if b = true then wpE (u s μ1) Q E else Q false μ1) E := by
  unfold tAn; rw [w_bind]; congr 1; funext b μ1; cases b <;> simp [wpE]
theorem w_or {t u : FT} {Q : Bool → Mem → Prop} : wpE (tOr' t u s μ) Q E = wpE (t s μ) (fun b μ1 => if b = true then Q true μ1 else wpE (u s μ1) Q E) E := by
  unfold tOr'; rw [w_bind]; congr 1; funext b μ1; cases b <;> simp [wpE]
theorem w_all {Q : Bool → Mem → Prop} : wpE (tAll s μ) Q E = Q true μ := propext ⟨fun h => h, fun h => h⟩
theorem w_if {t : FT} {a b : FE} {Q : U → Mem → Prop} : wpE (fIf t a b s μ) Q E = wpE (t s μ) (fun c μ1 => if c = true then wpE (a s μ1) Q E else wpE (b s μ1) Q E) E := by
  unfold fIf; rw [w_bind]; congr 1; funext b μ1; cases b <;> simp
/-! statements -/
theorem w_ofR {r : Res α} {k : α → Mem → Out} : wpS (ofR r s k) D = wpE r (fun a μ => wpS (k a μ) D) (fun c μ => D.ex c s μ) := by cases r <;> rfl
theorem s_seq {a b : FS} : wpS (sSeq a b s μ) D = wpS (a s μ) { D with nx := fun s1 μ1 => wpS (b s1 μ1) D } := by
  unfold sSeq
  cases a s μ <;> rfl
theorem s_next : wpS (sNext s μ) D = D.nx s μ := propext ⟨fun h => h, fun h => h⟩
theorem s_brk : wpS (sBrk s μ) D = D.bk s μ := propext ⟨fun h => h, fun h => h⟩
theorem s_cnt : wpS (sCnt s μ) D = D.ct s μ := propext ⟨fun h => h, fun h => h⟩
theorem s_expr {a : FE} : wpS (sExpr a s μ) D = wpE (a s μ) (fun _ μ1 => D.nx s μ1) (fun c μ => D.ex c s μ) := w_ofR
theorem s_ret {a : FE} : wpS (sRet a s μ) D = wpE (a s μ) (fun u μ1 => D.rt u μ1) (fun c μ => D.ex c s μ) := w_ofR
theorem s_retN : wpS (sRetN s μ) D = D.rt .non μ := propext ⟨fun h => h, fun h => h⟩
theorem s_if {t : FT} {a b : FS} : wpS (sIf t a b s μ) D = wpE (t s μ) (fun c μ1 => if c = true then wpS (a s μ1) D else wpS (b s μ1) D) (fun c μ => D.ex c s μ) := by
  unfold sIf; rw [w_ofR]; congr 1; funext c μ1; cases c <;> simp
theorem s_asg {g : Tgt} {a : FE} : wpS (sAsg g a s μ) D = wpE (a s μ) (fun u μ1 => ∃ s1, setT g u s = some s1 ∧ D.nx s1 μ1) (fun c μ => D.ex c s μ) := by
  unfold sAsg; rw [w_ofR]; congr 1; funext u μ1
  cases setT g u s <;> simp [wpS]
theorem s_asg1 {i : Nat} {a : FE} : wpS (sAsg (.one i) a s μ) D = wpE (a s μ) (fun u μ1 => D.nx (s.set i (some u)) μ1) (fun c μ => D.ex c s μ) := by
  rw [s_asg]; congr 1; funext u μ1; simp [setT]
theorem s_store {o i a : FE} : wpS (sStore o i a s μ) D = wpE (a s μ) (fun u μ1 => wpE (o s μ1) (fun x μ2 => wpE (i s μ2) (fun y μ3 => ∃ μ4, stU x y u μ3 = some μ4 ∧ D.nx s μ4) (fun c μ => D.ex c s μ)) (fun c μ => D.ex c s μ)) (fun c μ => D.ex c s μ) := by
  unfold sStore; rw [w_ofR]; congr 1; funext u μ1; rw [w_ofR]; congr 1; funext x μ2; rw [w_ofR]; congr 1; funext y μ3
  cases stU x y u μ3 <;> simp [wpS]
theorem stU_D {r : Nat} {kvs : List (Key × U)} {x : Str} {u : U} (h : μ[r]? = some (.dct kvs)) (hl : kvs.length < lim) : stU (.ref r) (.str x) u μ = some (μ.set r (.dct (putU kvs (.inr x) u))) := by
  unfold stU; simp only [h, keyU, hl, if_true]
theorem stU_L {r j : Nat} {us : List U} {i : Int} {u : U} (h : μ[r]? = some (.lst us)) (hj : ixN us.length i = some j) : stU (.ref r) (.int i) u μ = some (μ.set r (.lst (us.set j u))) := by
  unfold stU; simp only [h, hj]
/-- a def's run -/
theorem w_run {n : Nat} {body : FS} {us : List U} {Q : U → Mem → Prop} : wpE (runDef n body us μ) Q E = wpS (body (us.map some ++ List.replicate (n - us.length) none) μ) ⟨fun _ μ' => Q .non μ', Q, fun _ _ => False, fun _ _ => False, fun c _ μ' => E c μ'⟩ := by
  unfold runDef
  cases body (us.map some ++ List.replicate (n - us.length) none) μ <;> rfl

/-! ### loops -/
theorem w_for {it : FI} {g : Tgt} {b : FS} : wpS (sFor it g b s μ) D = wpE (it s μ) (fun j μ1 => wpS (sForGo g b fuelF j 0 s μ1) D) (fun c μ => D.ex c s μ) := w_ofR
/-- a for by what holds at each turn -/
theorem for_by {j : IterU} {g : Tgt} {b : FS} (I : Nat → Slots → Mem → Prop) (n : Nat) (hb : ∀ i s μ, I i s μ → i ≤ n)
    (step : ∀ i s μ, I i s μ → (itemAt j i μ = some none ∧ D.nx s μ) ∨ ∃ u s1, itemAt j i μ = some (some u) ∧ setT g u s = some s1 ∧ wpS (b s1 μ) ⟨I (i + 1), D.rt, D.nx, I (i + 1), D.ex⟩) :
    ∀ (f i : Nat) (s : Slots) (μ : Mem), n < f + i → I i s μ → wpS (sForGo g b f j i s μ) D
  | 0, i, s, μ, hf, h => by
    have := hb i s μ h
    omega
  | f + 1, i, s, μ, hf, h => by
    rcases step i s μ h with ⟨e, q⟩ | ⟨u, s1, e, e2, q⟩
    · simp only [sForGo, e]; exact q
    · simp only [sForGo, e, e2]
      cases eb : b s1 μ with
      | nx s2 μ2 => rw [eb] at q; exact for_by I n hb step f (i + 1) s2 μ2 (by omega) q
      | ct s2 μ2 => rw [eb] at q; exact for_by I n hb step f (i + 1) s2 μ2 (by omega) q
      | bk s2 μ2 => rw [eb] at q; exact q
      | rt u m2 => rw [eb] at q; exact q
      | ex c2 u m2 => rw [eb] at q; exact q
      | bad => rw [eb] at q; exact q
theorem for_go {j : IterU} {g : Tgt} {b : FS} (I : Nat → Slots → Mem → Prop) (n : Nat) (hn : n < 1000000) (h0 : I 0 s μ) (hb : ∀ i s μ, I i s μ → i ≤ n)
    (step : ∀ i s μ, I i s μ → (itemAt j i μ = some none ∧ D.nx s μ) ∨ ∃ u s1, itemAt j i μ = some (some u) ∧ setT g u s = some s1 ∧ wpS (b s1 μ) ⟨I (i + 1), D.rt, D.nx, I (i + 1), D.ex⟩) : wpS (sForGo g b fuelF j 0 s μ) D :=
  for_by I n hb step fuelF 0 s μ (by unfold fuelF; omega) h0
/-- a while by a measure -/
theorem while_by' {t : FT} {b : FS} (I : Nat → Slots → Mem → Prop)
    (step : ∀ m s μ, I m s μ → wpE (t s μ) (fun c μ1 => if c = true then ∃ m', m = m' + 1 ∧ wpS (b s μ1) ⟨I m', D.rt, D.nx, I m', D.ex⟩ else D.nx s μ1) (fun c μ => D.ex c s μ)) :
    ∀ (f m : Nat) (s : Slots) (μ : Mem), m < f → I m s μ → wpS (sWhile t b f s μ) D
  | 0, m, s, μ, hf, h => by omega
  | f + 1, m, s, μ, hf, h => by
    have q := step m s μ h
    simp only [sWhile, w_ofR]
    refine wpE.mono q fun c μ1 hc => ?_
    cases c with
    | false => simpa [wpS] using hc
    | true =>
      simp only [if_true] at hc
      obtain ⟨m', rfl, q2⟩ := hc
      cases eb : b s μ1 with
      | nx s2 μ2 => rw [eb] at q2; exact while_by' I step f m' s2 μ2 (by omega) q2
      | ct s2 μ2 => rw [eb] at q2; exact while_by' I step f m' s2 μ2 (by omega) q2
      | bk s2 μ2 => rw [eb] at q2; exact q2
      | rt u m2 => rw [eb] at q2; exact q2
      | ex c2 u m2 => rw [eb] at q2; exact q2
      | bad => rw [eb] at q2; exact q2
theorem while_go {t : FT} {b : FS} (I : Nat → Slots → Mem → Prop) {m : Nat} (hm : m < 1000000) (h0 : I m s μ)
    (step : ∀ m s μ, I m s μ → wpE (t s μ) (fun c μ1 => if c = true then ∃ m', m = m' + 1 ∧ wpS (b s μ1) ⟨I m', D.rt, D.nx, I m', D.ex⟩ else D.nx s μ1) (fun c μ => D.ex c s μ)) : wpS (sWhile t b fuelF s μ) D :=
  while_by' I step fuelF m s μ (by unfold fuelF; omega) h0
/-- a comprehension by what holds at each turn -/
theorem w_lc {it : FI} {own : List Nat} {g : Tgt} {t : FT} {e : FE} {Q : U → Mem → Prop} : wpE (fLc it own g t e s μ) Q E = wpE (it s μ) (fun j μ1 => wpE (lcGo j own g t e s μ1.length fuelF 0 (μ1 ++ [.lst []])) Q E) E := w_bind
theorem lc_by {j : IterU} {own : List Nat} {g : Tgt} {t : FT} {e : FE} {d : Nat} {Q : U → Mem → Prop} (I : Nat → Mem → Prop) (n : Nat) (hb : ∀ i μ, I i μ → i ≤ n)
    (step : ∀ i μ, I i μ → (itemAt j i μ = some none ∧ Q (.ref d) μ) ∨ ∃ u s1, itemAt j i μ = some (some u) ∧ setT g u (wipeU s own) = some s1 ∧
      wpE (t s1 μ) (fun b μ3 => if b = true then wpE (e s1 μ3) (fun v μ4 => ∃ acc, μ4[d]? = some (.lst acc) ∧ acc.length < lim ∧ I (i + 1) (μ4.set d (.lst (acc ++ [v])))) (fun _ _ => False) else I (i + 1) μ3) (fun _ _ => False)) :
    ∀ (f i : Nat) (μ : Mem), n < f + i → I i μ → wpE (lcGo j own g t e s d f i μ) Q E
  | 0, i, μ, hf, h => by
    have := hb i μ h
    omega
  | f + 1, i, μ, hf, h => by
    rcases step i μ h with ⟨e0, q⟩ | ⟨u, s1, e0, e2, q⟩
    · simp only [lcGo, e0]; exact q
    · simp only [lcGo, e0, e2]
      cases et : t s1 μ with
      | ex c m => rw [et] at q; exact q.elim
      | bad => rw [et] at q; exact q.elim
      | ok b μ3 =>
        rw [et] at q
        cases b with
        | false => exact lc_by I n hb step f (i + 1) μ3 (by omega) q
        | true =>
          have q' : wpE (e s1 μ3) (fun v μ4 => ∃ acc, μ4[d]? = some (.lst acc) ∧ acc.length < lim ∧ I (i + 1) (μ4.set d (.lst (acc ++ [v])))) (fun _ _ => False) := q
          cases ee : e s1 μ3 with
          | ex c m => rw [ee] at q'; exact q'.elim
          | bad => rw [ee] at q'; exact q'.elim
          | ok v μ4 =>
            rw [ee] at q'
            obtain ⟨acc, a1, a2, a3⟩ := q'
            simp only [ee, a1, a2, if_true]
            exact lc_by I n hb step f (i + 1) _ (by omega) a3
theorem lc_go {j : IterU} {own : List Nat} {g : Tgt} {t : FT} {e : FE} {d : Nat} {Q : U → Mem → Prop} (I : Nat → Mem → Prop) (n : Nat) (hn : n < 1000000) (h0 : I 0 μ) (hb : ∀ i μ, I i μ → i ≤ n)
    (step : ∀ i μ, I i μ → (itemAt j i μ = some none ∧ Q (.ref d) μ) ∨ ∃ u s1, itemAt j i μ = some (some u) ∧ setT g u (wipeU s own) = some s1 ∧
      wpE (t s1 μ) (fun b μ3 => if b = true then wpE (e s1 μ3) (fun v μ4 => ∃ acc, μ4[d]? = some (.lst acc) ∧ acc.length < lim ∧ I (i + 1) (μ4.set d (.lst (acc ++ [v])))) (fun _ _ => False) else I (i + 1) μ3) (fun _ _ => False)) :
    wpE (lcGo j own g t e s d fuelF 0 μ) Q E := lc_by I n hb step fuelF 0 μ (by unfold fuelF; omega) h0
/-! what is walked -/
theorem w_iseqT {a : FE} {Q : IterU → Mem → Prop} : wpE (iSeq a s μ) Q E = wpE (a s μ) (fun u μ1 => match u with
  | .tup us => Q (.seq us) μ1
  | .frl us => Q (.seq us) μ1
  | .str z => Q (.seq (signsU z)) μ1
  | .ref r => ∃ us, listAt μ1 r = some us ∧ Q (.live r) μ1
  | _ => False) E := by
  unfold iSeq; rw [w_bind]; congr 1; funext u μ1
  cases u with
  | ref r =>
    simp only
    cases listAt μ1 r <;> simp [wpE]
  | _ => rfl
theorem w_rg1 {a : FE} {Q : IterU → Mem → Prop} : wpE (iRg1 a s μ) Q E = wpE (a s μ) (fun u μ1 => ∃ n, u = .int n ∧ okR n = true ∧ Q (.rng 0 1 n.toNat) μ1) E := by
  unfold iRg1; rw [w_bind]; congr 1; funext u μ1
  cases u with
  | int n =>
    simp only
    split
    · rename_i h; simp [h, wpE]
    · rename_i h; simp [h, wpE]
  | _ => simp [wpE]
theorem w_rev1 {a : FE} {Q : IterU → Mem → Prop} : wpE (iRev1 a s μ) Q E = wpE (a s μ) (fun u μ1 => ∃ n, u = .int n ∧ okR n = true ∧ Q (.rng (n.toNat - 1) (-1) n.toNat) μ1) E := by
  unfold iRev1; rw [w_bind]; congr 1; funext u μ1
  cases u with
  | int n =>
    simp only
    split
    · rename_i h; simp [h, wpE]
    · rename_i h; simp [h, wpE]
  | _ => simp [wpE]
theorem listAt_L {r : Nat} {us : List U} (h : μ[r]? = some (.lst us)) : listAt μ r = some us := by unfold listAt; simp only [h]
theorem item_live {r i : Nat} {us : List U} (h : μ[r]? = some (.lst us)) : itemAt (.live r) i μ = some us[i]? := by
  simp only [itemAt, listAt_L h]; rfl
theorem item_rng {lo c : Int} {n i : Nat} : itemAt (.rng lo c n) i μ = some (if i < n then some (.int (lo + (i : Int) * c)) else none) := rfl
theorem item_seq {us : List U} {i : Nat} : itemAt (.seq us) i μ = some us[i]? := rfl
end
/-! ### places -/
theorem atI_nat {α : Type} {xs : List α} (n : Nat) : atI xs (n : Int) = xs[n]? := by
  unfold L2.atI L2.ixN
  rw [if_pos (by omega)]
  by_cases h : n < xs.length
  · rw [if_pos (by omega)]
    simp
  · rw [if_neg (by omega)]
    simp
    omega
theorem atI_0 {α : Type} {x : α} {xs : List α} : atI (x :: xs) 0 = some x := atI_nat (xs := x :: xs) 0
theorem atI_1 {α : Type} {x y : α} {xs : List α} : atI (x :: y :: xs) 1 = some y := atI_nat (xs := x :: y :: xs) 1
theorem atI_2 {α : Type} {x y z : α} {xs : List α} : atI (x :: y :: z :: xs) 2 = some z := atI_nat (xs := x :: y :: z :: xs) 2
theorem atI_3 {α : Type} {x y z a : α} {xs : List α} : atI (x :: y :: z :: a :: xs) 3 = some a := atI_nat (xs := x :: y :: z :: a :: xs) 3
theorem atI_4 {α : Type} {x y z a b : α} {xs : List α} : atI (x :: y :: z :: a :: b :: xs) 4 = some b := atI_nat (xs := x :: y :: z :: a :: b :: xs) 4
theorem atI_5 {α : Type} {x y z a b c : α} {xs : List α} : atI (x :: y :: z :: a :: b :: c :: xs) 5 = some c := atI_nat (xs := x :: y :: z :: a :: b :: c :: xs) 5
theorem atI_in {α : Type} {xs : List α} {i : Int} (h0 : 0 ≤ i) (h1 : i < xs.length) : ∃ a, atI xs i = some a ∧ a ∈ xs := by
  obtain ⟨j, rfl⟩ := Int.eq_ofNat_of_zero_le h0
  have hl : j < xs.length := by omega
  exact ⟨xs[j], (atI_nat j).trans (List.getElem?_eq_getElem hl), List.getElem_mem _⟩
theorem fmod_in {x m : Int} (h : 0 < m) : 0 ≤ x.fmod m ∧ x.fmod m < m := by
  rw [Int.fmod_eq_emod_of_nonneg _ (by omega)]
  exact ⟨Int.emod_nonneg _ (by omega), Int.emod_lt_of_pos _ h⟩
/-! ### memories that grow -/
/-- all but the cell s stays -/
structure Gr (s : Nat) (μ μ' : Mem) : Prop where
  le : μ.length ≤ μ'.length
  at_ : ∀ i, i < μ.length → i ≠ s → μ'[i]? = μ[i]?
theorem Gr.refl {s : Nat} {μ : Mem} : Gr s μ μ := ⟨Nat.le_refl _, fun _ _ _ => rfl⟩
theorem Gr.trans {s : Nat} {a b c : Mem} (h : Gr s a b) (g : Gr s b c) : Gr s a c := ⟨Nat.le_trans h.le g.le, fun i hi hs => (g.at_ i (Nat.lt_of_lt_of_le hi h.le) hs).trans (h.at_ i hi hs)⟩
theorem Gr.get {s i : Nat} {μ μ' : Mem} {c : Cell} (g : Gr s μ μ') (h : μ[i]? = some c) (hs : i ≠ s) : μ'[i]? = some c := (g.at_ i (List.getElem?_eq_some_iff.mp h).1 hs).trans h
theorem Gr.snoc {s : Nat} {μ : Mem} {c : Cell} : Gr s μ (μ ++ [c]) := ⟨by simp, fun i hi _ => List.getElem?_append_left hi⟩
theorem Gr.set {s : Nat} {μ : Mem} {c : Cell} : Gr s μ (μ.set s c) := ⟨by simp, fun i _ hs => List.getElem?_set_ne (Ne.symm hs)⟩
/-- a cell of the new part changes -/
theorem Gr.put {s i : Nat} {μ μ' : Mem} {c : Cell} (g : Gr s μ μ') (h : μ.length ≤ i) : Gr s μ (μ'.set i c) := ⟨by simpa using g.le, fun j hj hs => by
  rw [List.getElem?_set_ne (by omega)]; exact g.at_ j hj hs⟩
theorem get_snoc {μ : Mem} {c : Cell} : (μ ++ [c])[μ.length]? = some c := by simp
theorem get_set {μ : Mem} {i : Nat} {c d : Cell} (h : μ[i]? = some d) : (μ.set i c)[i]? = some c := List.getElem?_set_self (List.getElem?_eq_some_iff.mp h).1
theorem get_set_ne {μ : Mem} {i j : Nat} {c d : Cell} (h : μ[j]? = some d) (ne : i ≠ j) : (μ.set i c)[j]? = some d := (List.getElem?_set_ne ne).trans h
theorem get_snoc_lt {μ : Mem} {i : Nat} {c d : Cell} (h : μ[i]? = some d) : (μ ++ [c])[i]? = some d := (List.getElem?_append_left (List.getElem?_eq_some_iff.mp h).1).trans h
theorem get_lt {μ : Mem} {i : Nat} {d : Cell} (h : μ[i]? = some d) : i < μ.length := (List.getElem?_eq_some_iff.mp h).1
end Dg
/-! Dg9: raise of an own exception, texts with places, try with one clause without a name. -/
namespace Dg
open PySem PySem.Spec PyProof.Rows L2 RZ
section
variable {X : Cx} {W : WX} {k : Nat}
/-! ### raise C(e) -/
def sRaise (c : Str) (m : FE) : FS := fun s μ => ofR (m s μ) s fun _ μ1 => .ex c s μ1
theorem cs_raise {C : Addr} {bmB : List Value} {B newId initId : String} {x : Str} {e : Expr} {me : FE} {p pos pos' : Pos} (G : Good X W k) (F : ExcBaseFacts B newId initId bmB) (q : PySem.W.excIn X.K C bmB newId = true) (gC : X.mg x = some (.ref C))
    (kC : PySem.W.keepIn X.K (.ref C) = true) (r : Raises X (.ref C)) (hg : Gl X x) (he : CE X W e me) (hst : starEach [e] X.env = (false, eval e X.env) :: starEach [] X.env := by rfl) (hdb : (x == ("__debug__" : Str)) = false := by decide) :
    CS X W (.Raise (some (.Call (.Name x p) [e] [] pos)) none pos') (sRaise x me) := by
  intro ρ μ s σ H D hs hm h
  refine ⟨_, ps_raise G.calm G.tk (SkE.pmk_own1 F q gC kC r hg pe_w hst hdb), ?_⟩
  exact he ρ μ s σ H _ hs hm (PostS.bind hs h fun u μ1 x1 H1 ρ1 t1 r1 h1 => h1 (.ref C) σ H1 ρ1 (Stp.refl t1.mem) (t1.s hs) gC)
/-! ### f'..{e}..' -/
def fFmt (a : FE) : FE := fun s μ => (a s μ).bind fun u μ1 => match u with
  | .str y => if y.length ≤ lim then .ok (.str y) μ1 else .bad
  | .int i => if i.natAbs.log2 < 1920 ∧ PyData.strOk (toString i : Str) = true then .ok (.str (toString i)) μ1 else .bad
  | _ => .bad
theorem ce_fmt {e : Expr} {me : FE} {pos : Pos} (he : CE X W e me) : CE X W (.FormattedValue e (-1) none pos) (fFmt me) := by
  intro ρ μ s σ H Q hs hm h
  refine ⟨_, pe_fmt pe_w, ?_⟩
  refine he ρ μ s σ H _ hs hm (h.bind fun u μ1 x H1 ρ1 t1 r1 h1 => ?_)
  cases u with
  | str y =>
    cases r1 with
    | str ok =>
      simp only at h1
      split at h1
      · rename_i hl
        exact .inl ⟨y, rfl, lim_le hl, h1.ok (Stp.refl t1.mem) (.str ok)⟩
      · exact h1.elim
  | int i =>
    cases r1
    simp only at h1
    split at h1
    · rename_i hl
      exact .inr ⟨i, rfl, hl.1, h1.ok (Stp.refl t1.mem) (.str hl.2)⟩
    · exact h1.elim
  | _ => exact h1.elim
def fJs : List FE → Str → FE
  | [], acc => fun _ μ => .ok (.str acc) μ
  | p :: ps, acc => fun s μ => (p s μ).bind fun u μ1 => match u with
    | .str y => if (acc ++ y).length ≤ lim then fJs ps (acc ++ y) s μ1 else .bad
    | _ => .bad
inductive CJ (X : Cx) (W : WX) : List Expr → List FE → Prop
  | nil : CJ X W [] []
  | cons {e : Expr} {m : FE} {es : List Expr} {ms : List FE} (h : CE X W e m) (r : CJ X W es ms) : CJ X W (e :: es) (m :: ms)
theorem pj_all : ∀ es : List Expr, PJ X es (es.map (WE X))
  | [] => .nil
  | _ :: es => .cons pe_w (pj_all es)
theorem tjs_of {es : List Expr} {ms : List FE} (h : CJ X W es ms) : ∀ (acc : Str) (ρ : List Addr) (μ : Mem) (s : Slots) (σ : L2.St) (H : Hp) (Q : Str → Hp → Prop), PyData.strOk acc = true → RepS X.K H ρ s σ → RepM X.K H ρ μ →
    Post X W σ relV ρ H (fJs ms acc s μ) (fun v H1 => ∃ y, v = .str y ∧ Q y H1) → tJs (es.map (WE X)) acc σ H Q := by
  induction h with
  | nil =>
    intro acc ρ μ s σ H Q ok hs hm h
    obtain ⟨y, e, q⟩ := h.ok (Stp.refl hm) (.str ok)
    cases e
    exact q
  | @cons e m es ms he r ih =>
    intro acc ρ μ s σ H Q ok hs hm h
    refine he ρ μ s σ H _ hs hm (h.bind fun u μ1 x H1 ρ1 t1 r1 h1 => ?_)
    cases u with
    | str y =>
      cases r1 with
      | str oy =>
        simp only at h1
        split at h1
        · rename_i hl
          exact ⟨y, rfl, lim_le hl, ih (acc ++ y) ρ1 μ1 s σ H1 Q (strOk_append ok oy) (t1.s hs) t1.mem h1⟩
        · exact h1.elim
    | _ => exact h1.elim
theorem fJs_str : ∀ {ms : List FE} {acc : Str} {s : Slots} {μ m : Mem} {u : U}, fJs ms acc s μ = .ok u m → ∃ y, u = .str y
  | [], acc, s, μ, m, u, h => by cases h; exact ⟨acc, rfl⟩
  | p :: ps, acc, s, μ, m, u, h => by
    unfold fJs at h
    cases e : p s μ with
    | ok w m1 =>
      rw [e] at h
      simp only [Res.bind] at h
      split at h
      · split at h
        · exact fJs_str h
        · cases h
      · cases h
    | ex c m1 => rw [e] at h; cases h
    | bad => rw [e] at h; cases h
theorem ce_joined {e1 e2 : Expr} {es : List Expr} {ms : List FE} {pos : Pos} (h : CJ X W (e1 :: e2 :: es) ms) : CE X W (.JoinedStr (e1 :: e2 :: es) pos) (fJs ms Str.empty) := by
  intro ρ μ s σ H Q hs hm q
  refine ⟨_, pe_joined (pj_all _), ?_⟩
  refine tjs_of h Str.empty ρ μ s σ H _ (by decide +kernel) hs hm ?_
  cases z : fJs ms Str.empty s μ with
  | ok u m =>
    rw [z] at q
    obtain ⟨y, rfl⟩ := fJs_str z
    intro v H' ρ' t r
    have r' := r
    cases r' with
    | str _ => exact ⟨y, rfl, q _ H' ρ' t r⟩
  | ex c m => rw [z] at q; exact q
  | bad => rw [z] at q; exact q
theorem ce_joined1 {e : Expr} {me : FE} {pos : Pos} (he : CE X W e me) : CE X W (.JoinedStr [e] pos) me := by
  intro ρ μ s σ H Q hs hm q
  exact ⟨_, pe_joined1 pe_w, he ρ μ s σ H Q hs hm q⟩
/-! ### try .. except C -/
def sTry (tab : List (Str × Bool)) (body suite : FS) : FS := fun s μ => match body s μ with
  | .ex c s1 μ1 => match tab.lookup c with
    | some true => suite s1 μ1
    | some false => .ex c s1 μ1
    | none => .bad
  | o => o
theorem cs_try {x : Str} {c : Value} {body suite : List Stmt} {b₀ : Stmt} {np pos pos' : Pos} {tab : List (Str × Bool)} {mb ms : FS} (hst : X.stack = X.env :: X.outer) (hfr : X.env.frame = some X.env.locals) (hc : Names X x c) (G : Good X W k)
    (htab : ∀ (n : Str) (b : Bool) (cls : Value), tab.lookup n = some b → X.mg n = some cls → PySem.W.exmOne X.K cls c = some b)
    (hb : ∀ (W' : WX) (pn : List (Addr × Obj)) (xe : Value → Shared → Prop), Takes (X.tr pn xe) W' → PassesOwn (model X.prog X.w) X.A X.env xe → CSs (X.tr pn xe) W' body mb)
    (hsu : ∀ (a : Addr) (oe : Obj) (cls : Value) (d : Option Addr) (pn : List (Addr × Obj)), Zc cls d oe → (∃ vs, oe.data = .fields vs) → CSs (X.suite a ((a, oe) :: pn)) W (b₀ :: suite) ms) :
    CS X W (.Try body [.ExceptHandler (some (.Name x np)) none (b₀ :: suite) pos'] [] [] pos) (sTry tab mb ms) := by
  intro ρ μ s σ H D hs hm h
  refine ⟨_, ps_try_only hst hfr hc (Wout := W) (tb := fun W' D σ H => ∀ pn xe, Takes (X.tr pn xe) W' → PassesOwn (model X.prog X.w) X.A X.env xe → WSs (X.tr pn xe) body D σ H)
    (ts := fun a cls d D σ H => ∀ oe pn, Zc cls d oe → (∃ vs, oe.data = .fields vs) → WSs (X.suite a ((a, oe) :: pn)) (b₀ :: suite) D σ H) G.tk
    (fun W' pn xe tk' po => ⟨fun pins s σ H D I h => pss_w.run pins s σ H D I (h pn xe tk' po)⟩) (fun a oe cls d pn hz hf => ⟨fun pins s σ H D I h => pss_w.run pins s σ H D I (h oe pn hz hf)⟩), ?_⟩
  intro pn xe tk' po
  refine hb _ pn xe tk' po ρ μ s σ H D hs hm ?_
  unfold sTry at h
  cases e : mb s μ with
  | nx s1 m1 => rw [e] at h; exact h
  | rt u m1 => rw [e] at h; exact h
  | bk s1 m1 => rw [e] at h; exact h
  | ct s1 m1 => rw [e] at h; exact h
  | bad => rw [e] at h; exact h
  | ex c' s1 m1 =>
    rw [e] at h
    simp only at h
    intro cls σ' H' ρ' t r em
    cases hl : tab.lookup c' with
    | none => rw [hl] at h; exact h.elim
    | some b =>
      rw [hl] at h
      refine ⟨b, htab c' b cls hl em, ?_, ?_⟩
      · rintro rfl a ha oe pn2 hz hf
        exact hsu a oe cls none pn2 hz hf ρ' m1 s1 σ' H' D r t.mem (PostS.from t h)
      · rintro rfl
        exact h cls σ' H' ρ' t r em
/-! ### own exceptions, by facts of the head -/
def Exn (K : PySem.W.Frag) (mg : Str → Option Value) (x : Str) : Prop := ∃ C : Addr, mg x = some (.ref C) ∧ PySem.W.excIn K C He.veBase "ValueError.__new__" = true ∧ PySem.W.keepIn K (.ref C) = true ∧
  PySem.W.subIn K (.ref C) (.type "BaseException") = some true ∧ PySem.W.typeIn K (.ref C) = some (.type "type")
theorem exn_ok {K : PySem.W.Frag} {h : Heap} {mg : Str → Option Value} (KX : K.In h) (N : h.Ns mainGlobals mg) {x : Str} (c1 : (He.Fa.glo x).ok K = true) (c2 : (He.Fa.exc x).ok K = true) : Exn K mg x :=
  ⟨He.ga K x, He.glo_ok KX N c1, He.exc_ok c2⟩
theorem cs_raiseN {x : Str} {e : Expr} {me : FE} {p pos pos' : Pos} (G : Good X W k) (h : Exn X.K X.mg x) (hg : Gl X x) (he : CE X W e me) (hst : starEach [e] X.env = (false, eval e X.env) :: starEach [] X.env := by rfl)
    (hdb : (x == ("__debug__" : Str)) = false := by decide) : CS X W (.Raise (some (.Call (.Name x p) [e] [] pos)) none pos') (sRaise x me) := by
  obtain ⟨C, h1, h2, h3, h4, h5⟩ := h
  exact cs_raise G PySem.F.excBase_ValueError h2 h1 h3 (raises_own h4 h5) hg he hst hdb
def Exm (K : PySem.W.Frag) (mg : Str → Option Value) (x y : Str) (b : Bool) : Prop := ∃ Cx Cy : Addr, mg x = some (.ref Cx) ∧ mg y = some (.ref Cy) ∧ PySem.W.exmOne K (.ref Cx) (.ref Cy) = some b
theorem exmF_ok {K : PySem.W.Frag} {h : Heap} {mg : Str → Option Value} (KX : K.In h) (N : h.Ns mainGlobals mg) {x y : Str} {b : Bool} (c1 : (He.Fa.glo x).ok K = true) (c2 : (He.Fa.glo y).ok K = true) (c3 : (He.Fa.exm x y b).ok K = true) : Exm K mg x y b :=
  ⟨He.ga K x, He.ga K y, He.glo_ok KX N c1, He.glo_ok KX N c2, He.exm_ok c3⟩
theorem Good.tr (G : Good X W k) {W' : WX} {pn : List (Addr × Obj)} {xe : Value → Shared → Prop} (tk : Takes (X.tr pn xe) W') (po : PassesOwn (model X.prog X.w) X.A X.env xe) : Good (X.tr pn xe) W' k := ⟨G.calm, G.room, tk, po⟩
theorem lookup_mem {α : Type} {n : Str} {b : α} : ∀ {l : List (Str × α)}, l.lookup n = some b → (n, b) ∈ l
  | [], h => by cases h
  | p :: r, h => by
    rw [List.lookup_cons] at h
    split at h
    · rename_i e
      cases h
      have e2 := beq_iff_eq.mp e
      subst e2
      exact List.mem_cons_self
    · exact List.mem_cons_of_mem _ (lookup_mem h)
theorem cs_tryN {x : Str} {body suite : List Stmt} {b₀ : Stmt} {np pos pos' : Pos} {tab : List (Str × Bool)} {mb ms : FS} (G : Good X W k) (hx : Exn X.K X.mg x) (hg : Gl X x) (htab : ∀ q ∈ tab, Exm X.K X.mg q.1 x q.2)
    (hb : ∀ (W' : WX) (pn : List (Addr × Obj)) (xe : Value → Shared → Prop), Good (X.tr pn xe) W' k → CSs (X.tr pn xe) W' body mb)
    (hsu : ∀ (a : Addr) (oe : Obj) (cls : Value) (d : Option Addr) (pn : List (Addr × Obj)), Zc cls d oe → (∃ vs, oe.data = .fields vs) → CSs (X.suite a ((a, oe) :: pn)) W (b₀ :: suite) ms)
    (hst : X.stack = X.env :: X.outer := by rfl) (hfr : X.env.frame = some X.env.locals := by rfl) (hdb : (x == ("__debug__" : Str)) = false := by decide) :
    CS X W (.Try body [.ExceptHandler (some (.Name x np)) none (b₀ :: suite) pos'] [] [] pos) (sTry tab mb ms) := by
  obtain ⟨C, h1, _⟩ := hx
  refine cs_try hst hfr (c := .ref C) ⟨hg, hdb, .inl h1⟩ G (fun n b cls hl hm => ?_) (fun W' pn xe tk po => hb W' pn xe (G.tr tk po)) hsu
  obtain ⟨Cx, Cy, e1, e2, e3⟩ := htab (n, b) (lookup_mem hl)
  simp only at e1 e2 e3
  rw [hm] at e1
  cases e1
  rw [h1] at e2
  cases e2
  exact e3
theorem exm_cons {K : PySem.W.Frag} {mg : Str → Option Value} {x y : Str} {b : Bool} {l : List (Str × Bool)} (h : Exm K mg x y b) (r : ∀ q ∈ l, Exm K mg q.1 y q.2) : ∀ q ∈ ((x, b) :: l), Exm K mg q.1 y q.2 := by
  intro q hq
  rcases List.mem_cons.mp hq with rfl | hq
  · exact h
  · exact r q hq
end
end Dg
/-! Dg10: {k: v, ..}. -/
namespace Dg
open PySem PySem.Spec PyProof.Rows L2 RZ
def mergeU (kus more : List (Key × U)) : List (Key × U) := more.foldl (fun acc kv => putU acc kv.1 kv.2) kus
theorem RepKV.merge {K : PySem.W.Frag} {H : Hp} {ρ : List Addr} : ∀ {more : List (Key × U)} {mv : List (Key × V)} {kus : List (Key × U)} {kvs : List (Key × V)}, RepKV K H ρ more mv → RepKV K H ρ kus kvs → RepKV K H ρ (mergeU kus more) (mergeK kvs mv)
  | [], mv, kus, kvs, h, g => by
    have := h.unnil
    subst this
    exact g
  | (k, u) :: more, mv, kus, kvs, h, g => by
    obtain ⟨v, mv', e, r, h'⟩ := h.uncons
    subst e
    show RepKV K H ρ (mergeU (putU kus k u) more) (mergeK (putK kvs k v) mv')
    exact RepKV.merge h' (RepKV.put r g)
def fPairs : List (FE × FE) → Slots → Mem → Res (List (Key × U))
  | [], _, μ => .ok [] μ
  | (k, v) :: r, s, μ => (k s μ).bind fun ku μ1 => (v s μ1).bind fun u μ2 => match keyU ku with
    | some key => (fPairs r s μ2).bind fun kus μ3 => .ok ((key, u) :: kus) μ3
    | none => .bad
def relKV : RelT (List (Key × U)) (List (Key × V)) := fun K H ρ a b => RepKV K H ρ a b
def fDisp (ms : List (FE × FE)) : FE := fun s μ => (fPairs ms s (μ ++ [.dct []])).bind fun kus μ1 => match μ1[μ.length]? with
  | some (.dct []) => if kus.length ≤ 15 then .ok (.ref μ.length) (μ1.set μ.length (.dct (mergeU [] kus))) else .bad
  | _ => .bad
theorem Post.from' {α β : Type} {X : Cx} {W : WX} {σ : L2.St} {rel : RelT α β} {ρ ρ1 : List Addr} {H H1 : Hp} {μ1 : Mem} {r : Res α} {Q : β → Hp → Prop} (t : Stp X.K ρ H ρ1 H1 μ1) (h : Post X W σ rel ρ H r Q) : Post X W σ rel ρ1 H1 r Q := by
  cases r with
  | ok a m => exact fun v H' ρ' t' r => h v H' ρ' (t.trans t') r
  | ex c m => exact fun cls H' ρ' t' e => h cls H' ρ' (t.trans t') e
  | bad => exact h
section
variable {X : Cx} {W : WX} {k : Nat}
inductive CP (X : Cx) (W : WX) : List (Option Expr) → List Expr → List (FE × FE) → Prop
  | nil : CP X W [] [] []
  | cons {k v : Expr} {mk mv : FE} {ks : List (Option Expr)} {vs : List Expr} {ms : List (FE × FE)} (hk : CE X W k mk) (hv : CE X W v mv) (r : CP X W ks vs ms) : CP X W (some k :: ks) (v :: vs) ((mk, mv) :: ms)
theorem CP.pairs {pos : Pos} {ks : List (Option Expr)} {vs : List Expr} {ms : List (FE × FE)} (c : CP X W ks vs ms) : ∃ trs : List (TE × TE), PPs X pos ks vs trs ∧ ∀ (ρ : List Addr) (μ : Mem) (s : Slots) (σ : L2.St) (H : Hp) (Q : List (V × V) → Hp → Prop), RepS X.K H ρ s σ → RepM X.K H ρ μ →
    Post X W σ relKV ρ H (fPairs ms s μ) (fun kvs H3 => Q (kvs.map fun kv => (kV kv.1, kv.2)) H3) → tPairs trs σ H Q := by
  induction c with
  | nil => exact ⟨[], pps_nil, fun ρ μ s σ H Q hs hm h => h.ok (v := []) (Stp.refl hm) RepKV.nil⟩
  | @cons k v mk mv ks vs ms hk hv r ih =>
    obtain ⟨trs, p, ih⟩ := ih
    refine ⟨(WE X k, WE X v) :: trs, pps_cons pe_w pe_w p, fun ρ μ s σ H Q hs hm h => ?_⟩
    refine hk ρ μ s σ H _ hs hm (h.bind fun ku μ1 x H1 ρ1 t1 r1 h1 => ?_)
    refine hv ρ1 μ1 s σ H1 _ (t1.s hs) t1.mem (h1.bind fun u μ2 y H2 ρ2 t2 r2 h2 => ?_)
    split at h2
    · rename_i key e
      have ex : x = kV key := keyU_ok (t2.v r1) e
      subst ex
      refine ih ρ2 μ2 s σ H2 _ (t2.s (t1.s hs)) t2.mem (h2.bind (rel1 := relKV) fun kus μ3 kvs H3 ρ3 t3 r3 h3 => ?_)
      exact h3.ok (v := (key, y) :: kvs) (Stp.refl t3.mem) (RepKV.cons (t3.v r2) r3)
    · exact h2.elim
theorem ce_disp {ks : List (Option Expr)} {vs : List Expr} {ms : List (FE × FE)} {pos : Pos} (c : CP X W ks vs ms) (hall : ks.all (·.isSome) = true := by rfl) (hl : ks.length = vs.length := by rfl) (h0 : ks ≠ [] := by exact List.cons_ne_nil _ _)
    (h15 : ks.length ≤ 15 := by decide) : CE X W (.Dict ks vs pos) (fDisp ms) := by
  intro ρ μ s σ H Q hs hm h
  obtain ⟨trs, p, run⟩ := c.pairs (pos := pos)
  refine ⟨_, pe_disp p hall hl h0 h15, fun q nq => ?_⟩
  have t0 := newD hm nq (RepKV.nil (K := X.K) (H := H) (ρ := ρ))
  refine run (ρ ++ [q]) (μ ++ [.dct []]) s σ _ _ (t0.s hs) t0.mem ((Post.from' t0 h).bind (rel1 := relKV) fun kus μ1 kvs H1 ρ1 t1 r1 h1 => ?_)
  split at h1
  · rename_i e
    split at h1
    · rename_i hz
      have er : ρ1[μ.length]? = some q := t1.ext.get (by rw [← hm.len]; simp)
      obtain ⟨c, ec, rc⟩ := t1.mem.at er
      rw [e] at ec
      cases ec
      obtain ⟨kv0, a1, a2, a3⟩ := rc
      have : kv0 = [] := by simpa using a2
      subst this
      refine ⟨a1, kvs, rfl, by rw [r1.length]; exact hz, ?_⟩
      exact h1.ok (putD t1.mem er e (RepKV.merge r1 RepKV.nil)) (.ref er)
    · exact h1.elim
  · exact h1.elim
end
end Dg
/-! Dg11: try .. except C as e: return .., where e is asked by isinstance alone. -/
namespace Dg
open PySem PySem.Spec PyProof.Rows L2 RZ
theorem RepS.hide {K : PySem.W.Frag} {H : Hp} {ρ : List Addr} {s : Slots} {σ : L2.St} (h : RepS K H ρ s σ) (i : Nat) (x : Option V) : RepS K H ρ (s.set i none) (σ.set i x) := by
  refine ⟨by simpa using h.len, fun j u e => ?_⟩
  by_cases hj : i = j
  · subst hj
    rw [List.getElem?_set] at e
    simp at e
  · rw [List.getElem?_set_ne hj] at e
    rw [List.getElem?_set_ne hj]
    exact h.get j u e
section
variable {X : Cx} {W : WX} {k i : Nat} {a : Addr}
/-- an expression where slot i holds a -/
def CEat (X : Cx) (W : WX) (i : Nat) (a : Addr) (e : Expr) (m : FE) : Prop := ∀ ρ μ s σ H Q, σ[i]? = some (some (.ref a)) → RepS X.K H ρ s σ → RepM X.K H ρ μ → Post X W σ relV ρ H (m s μ) Q → WE X e σ H Q
theorem at_of {e : Expr} {m : FE} (h : CE X W e m) : CEat X W i a e m := fun ρ μ s σ H Q _ hs hm q => h ρ μ s σ H Q hs hm q
theorem at_one {op : BoolOp} {e : Expr} {m : FE} {pos : Pos} (ha : CEat X W i a e m) : CEat X W i a (.BoolOp op [e] pos) m := fun ρ μ s σ H Q hi hs hm p => ⟨_, pe_one pe_w, ha ρ μ s σ H Q hi hs hm p⟩
theorem at_and {e b : Expr} {rest : List Expr} {ma mb : FE} {pos : Pos} (ha : CEat X W i a e ma) (hb : CEat X W i a (.BoolOp .And (b :: rest) pos) mb) : CEat X W i a (.BoolOp .And (e :: b :: rest) pos) (fAnd ma mb) := by
  intro ρ μ s σ H Q hi hs hm h
  refine ⟨_, pe_and pe_w pe_w, ?_⟩
  refine ha ρ μ s σ H _ hi hs hm (h.bind fun b μ1 x H1 ρ1 t1 r1 h1 => ?_)
  split at h1
  · cases r1
    exact ⟨_, rfl, iteT (hb ρ1 μ1 s σ H1 Q hi (t1.s hs) t1.mem h1)⟩
  · cases r1
    exact ⟨_, rfl, iteF (h1.ok (Stp.refl t1.mem) .bl)⟩
  · exact h1.elim
theorem at_or {e b : Expr} {rest : List Expr} {ma mb : FE} {pos : Pos} (ha : CEat X W i a e ma) (hb : CEat X W i a (.BoolOp .Or (b :: rest) pos) mb) : CEat X W i a (.BoolOp .Or (e :: b :: rest) pos) (fOr ma mb) := by
  intro ρ μ s σ H Q hi hs hm h
  refine ⟨_, pe_or pe_w pe_w, ?_⟩
  refine ha ρ μ s σ H _ hi hs hm (h.bind fun b μ1 x H1 ρ1 t1 r1 h1 => ?_)
  split at h1
  · cases r1
    exact ⟨_, rfl, iteT (h1.ok (Stp.refl t1.mem) .bl)⟩
  · cases r1
    exact ⟨_, rfl, iteF (hb ρ1 μ1 s σ H1 Q hi (t1.s hs) t1.mem h1)⟩
  · exact h1.elim
theorem at_not {e : Expr} {ma : FE} {pos : Pos} (ha : CEat X W i a e ma) : CEat X W i a (.UnaryOp .Not e pos) (fNot ma) := by
  intro ρ μ s σ H Q hi hs hm h
  refine ⟨_, pe_not pe_w, ?_⟩
  refine ha ρ μ s σ H _ hi hs hm (h.bind fun b μ1 x H1 ρ1 t1 r1 h1 => ?_)
  split at h1
  · cases r1
    exact ⟨_, rfl, h1.ok (Stp.refl t1.mem) .bl⟩
  · exact h1.elim
theorem at_isE {D Cy : Addr} {oe : Obj} {pn : List (Addr × Obj)} {n y : Str} {b : Bool} {p p1 p2 pos : Pos} (C : ExcC X.K D) (hz : Zc (.ref D) none oe) (hf : ∃ vs, oe.data = .fields vs) (hk : PySem.W.kitOne X.K (.ref D) (.ref Cy) = some b)
    (hN : X.N[i]? = some n) (hv : Vis X.env.scope n) (hy : X.mg y = some (.ref Cy)) (hgy : Gl X y) (hg : Gl X "isinstance") (hm0 : X.mg "isinstance" = none)
    (hd : (n == ("__debug__" : Str)) = false := by decide) (hcd : (n == ("__classdict__" : Str)) = false := by decide) (hdy : (y == ("__debug__" : Str)) = false := by decide)
    (he : starEach [.Name n p1, .Name y p2] (X.suite a ((a, oe) :: pn)).env = (false, eval (.Name n p1) (X.suite a ((a, oe) :: pn)).env) :: starEach [.Name y p2] (X.suite a ((a, oe) :: pn)).env := by rfl)
    (he2 : starEach [.Name y p2] (X.suite a ((a, oe) :: pn)).env = (false, eval (.Name y p2) (X.suite a ((a, oe) :: pn)).env) :: starEach [] (X.suite a ((a, oe) :: pn)).env := by rfl)
    (hpl : (backTo pos (starEach [.Name y p2] (X.suite a ((a, oe) :: pn)).env)).any (·.1) = false := by rfl) :
    CEat (X.suite a ((a, oe) :: pn)) W i a (.Call (.Name "isinstance" p) [.Name n p1, .Name y p2] [] pos) (fC (.bl b)) := by
  intro ρ μ s σ H Q hi hs hm h
  have hv1 : PE (X.suite a ((a, oe) :: pn)) (.Name n p1) (tVar i) := pe_var hN hv hd hcd
  have hv2 : PE (X.suite a ((a, oe) :: pn)) (.Name y p2) (tC (.ref Cy)) := pe_glob hgy hy (v := .ref Cy) rfl hdy
  refine ⟨_, pe_callB (call_isE C hz hf) hg hm0 bt_isinstance (pa_cons hv1 (pa_cons hv2 pa_nil he2) he) (he := he) (hpl := hpl), ?_⟩
  refine ⟨.ref a, hi, ?_⟩
  refine ⟨.ref Cy, .ref Cy, b, rfl, fun u hu => hu, hk, h.ok (Stp.refl hm) .bl⟩
/-! ### isinstance(e, C) by the name of the class that was raised -/
def fIsX (tab : List (Str × Bool)) (c : Str) : FE := match tab.lookup c with
  | some b => fC (.bl b)
  | none => fun _ _ => .bad
def Isx (K : PySem.W.Frag) (mg : Str → Option Value) (x y : Str) (b : Bool) : Prop := ∃ D Cy : Addr, mg x = some (.ref D) ∧ mg y = some (.ref Cy) ∧ ExcC K D ∧ PySem.W.kitOne K (.ref D) (.ref Cy) = some b
theorem isx_cons {K : PySem.W.Frag} {mg : Str → Option Value} {x y : Str} {b : Bool} {l : List (Str × Bool)} (h : Isx K mg x y b) (r : ∀ q ∈ l, Isx K mg q.1 y q.2) : ∀ q ∈ ((x, b) :: l), Isx K mg q.1 y q.2 := by
  intro q hq
  rcases List.mem_cons.mp hq with rfl | hq
  · exact h
  · exact r q hq
theorem exC_ok {K : PySem.W.Frag} {D : Addr} (c : exC K D = true) : ExcC K D := by
  unfold exC at c
  simp only [Bool.and_eq_true, decide_eq_true_eq] at c
  obtain ⟨c1, c2, c3, c4, c5, c6, c7, c8⟩ := c
  exact ⟨He.eqO_ok c1, He.eqO_ok c2, c3, c4, He.eqO_ok c5, He.eqO_ok c6, c7, c8⟩
theorem isxF_ok {K : PySem.W.Frag} {h : Heap} {mg : Str → Option Value} (KX : K.In h) (N : h.Ns mainGlobals mg) {x y : Str} {b : Bool} (c1 : (He.Fa.glo x).ok K = true) (c2 : (He.Fa.glo y).ok K = true) (c3 : (FaU.isx x y b).ok K = true) : Isx K mg x y b := by
  simp only [FaU.ok, Bool.and_eq_true, decide_eq_true_eq] at c3
  exact ⟨He.ga K x, He.ga K y, He.glo_ok KX N c1, He.glo_ok KX N c2, exC_ok c3.1, c3.2⟩
theorem at_isX {D : Addr} {oe : Obj} {pn : List (Addr × Obj)} {n y c : Str} {tab : List (Str × Bool)} {p p1 p2 pos : Pos} (ht : ∀ q ∈ tab, Isx X.K X.mg q.1 y q.2) (hc : X.mg c = some (.ref D)) (hz : Zc (.ref D) none oe) (hf : ∃ vs, oe.data = .fields vs)
    (hN : X.N[i]? = some n) (hv : Vis X.env.scope n) (hgy : Gl X y) (hg : Gl X "isinstance") (hm0 : X.mg "isinstance" = none)
    (hd : (n == ("__debug__" : Str)) = false := by decide) (hcd : (n == ("__classdict__" : Str)) = false := by decide) (hdy : (y == ("__debug__" : Str)) = false := by decide)
    (he : starEach [.Name n p1, .Name y p2] (X.suite a ((a, oe) :: pn)).env = (false, eval (.Name n p1) (X.suite a ((a, oe) :: pn)).env) :: starEach [.Name y p2] (X.suite a ((a, oe) :: pn)).env := by rfl)
    (he2 : starEach [.Name y p2] (X.suite a ((a, oe) :: pn)).env = (false, eval (.Name y p2) (X.suite a ((a, oe) :: pn)).env) :: starEach [] (X.suite a ((a, oe) :: pn)).env := by rfl)
    (hpl : (backTo pos (starEach [.Name y p2] (X.suite a ((a, oe) :: pn)).env)).any (·.1) = false := by rfl) :
    CEat (X.suite a ((a, oe) :: pn)) W i a (.Call (.Name "isinstance" p) [.Name n p1, .Name y p2] [] pos) (fIsX tab c) := by
  unfold fIsX
  cases hl : tab.lookup c with
  | none => exact fun ρ μ s σ H Q _ _ _ q => q.elim
  | some b =>
    obtain ⟨D2, Cy, e1, e2, e3, e4⟩ := ht (c, b) (lookup_mem hl)
    simp only at e1 e2 e3 e4
    rw [hc] at e1
    cases e1
    exact at_isE e3 hz hf e4 hN hv e2 hgy hg hm0 hd hcd hdy he he2 hpl
theorem bt_ValueError : bootBuiltins "ValueError" = some (.type "ValueError") := by decide +kernel
def Isv (K : PySem.W.Frag) (mg : Str → Option Value) (x : Str) (b : Bool) : Prop := ∃ D : Addr, mg x = some (.ref D) ∧ ExcC K D ∧ PySem.W.kitOne K (.ref D) (.type "ValueError") = some b
theorem isv_cons {K : PySem.W.Frag} {mg : Str → Option Value} {x : Str} {b : Bool} {l : List (Str × Bool)} (h : Isv K mg x b) (r : ∀ q ∈ l, Isv K mg q.1 q.2) : ∀ q ∈ ((x, b) :: l), Isv K mg q.1 q.2 := by
  intro q hq
  rcases List.mem_cons.mp hq with rfl | hq
  · exact h
  · exact r q hq
theorem isvF_ok {K : PySem.W.Frag} {h : Heap} {mg : Str → Option Value} (KX : K.In h) (N : h.Ns mainGlobals mg) {x : Str} {b : Bool} (c1 : (He.Fa.glo x).ok K = true) (c3 : (FaU.isv x "ValueError" b).ok K = true) : Isv K mg x b := by
  simp only [FaU.ok, Bool.and_eq_true, decide_eq_true_eq] at c3
  exact ⟨He.ga K x, He.glo_ok KX N c1, exC_ok c3.1.1, c3.2⟩
theorem at_isV {D : Addr} {oe : Obj} {pn : List (Addr × Obj)} {n c : Str} {tab : List (Str × Bool)} {p p1 p2 pos : Pos} (ht : ∀ q ∈ tab, Isv X.K X.mg q.1 q.2) (hc : X.mg c = some (.ref D)) (hz : Zc (.ref D) none oe) (hf : ∃ vs, oe.data = .fields vs)
    (hN : X.N[i]? = some n) (hv : Vis X.env.scope n) (hgy : Gl X "ValueError") (hmy : X.mg "ValueError" = none) (hg : Gl X "isinstance") (hm0 : X.mg "isinstance" = none)
    (hd : (n == ("__debug__" : Str)) = false := by decide) (hcd : (n == ("__classdict__" : Str)) = false := by decide)
    (he : starEach [.Name n p1, .Name "ValueError" p2] (X.suite a ((a, oe) :: pn)).env = (false, eval (.Name n p1) (X.suite a ((a, oe) :: pn)).env) :: starEach [.Name "ValueError" p2] (X.suite a ((a, oe) :: pn)).env := by rfl)
    (he2 : starEach [.Name "ValueError" p2] (X.suite a ((a, oe) :: pn)).env = (false, eval (.Name "ValueError" p2) (X.suite a ((a, oe) :: pn)).env) :: starEach [] (X.suite a ((a, oe) :: pn)).env := by rfl)
    (hpl : (backTo pos (starEach [.Name "ValueError" p2] (X.suite a ((a, oe) :: pn)).env)).any (·.1) = false := by rfl) :
    CEat (X.suite a ((a, oe) :: pn)) W i a (.Call (.Name "isinstance" p) [.Name n p1, .Name "ValueError" p2] [] pos) (fIsX tab c) := by
  unfold fIsX
  cases hl : tab.lookup c with
  | none => exact fun ρ μ s σ H Q _ _ _ q => q.elim
  | some b =>
    obtain ⟨D2, e1, e3, e4⟩ := ht (c, b) (lookup_mem hl)
    simp only at e1 e3 e4
    rw [hc] at e1
    cases e1
    intro ρ μ s σ H Q hi hs hm h
    have hv1 : PE (X.suite a ((a, oe) :: pn)) (.Name n p1) (tVar i) := pe_var hN hv hd hcd
    have hv2 : PE (X.suite a ((a, oe) :: pn)) (.Name "ValueError" p2) (tC (.ty "ValueError")) := pe_bltn hgy hmy bt_ValueError rfl
    refine ⟨_, pe_callB (call_isE e3 hz hf) hg hm0 bt_isinstance (pa_cons hv1 (pa_cons hv2 pa_nil he2) he) (he := he) (hpl := hpl), ?_⟩
    refine ⟨.ref a, hi, ?_⟩
    exact ⟨.ty "ValueError", .type "ValueError", b, rfl, fun u hu => hu, e4, h.ok (Stp.refl hm) .bl⟩
/-! ### the statement -/
def sTryAs (tab : List (Str × Bool)) (i : Nat) (body : FS) (ms : Str → FE) : FS := fun s μ => match body s μ with
  | .ex c s1 μ1 => match tab.lookup c with
    | some true => if i < s1.length then ofR (ms c (s1.set i none) μ1) (s1.set i none) fun u μ2 => .rt u μ2 else .bad
    | some false => .ex c s1 μ1
    | none => .bad
  | o => o
theorem cs_tryAs_end {a0 : Addr} {oe : Obj} {pn2 : List (Addr × Obj)} {e : Expr} {m : FE} {rp : Pos} {ρ ρ' : List Addr} {H H' : Hp} {s1 : Slots} {m1 : Mem} {σ' : L2.St} {D D' : Ends} (hce : CEat (X.suite a0 ((a0, oe) :: pn2)) W i a0 e m) (hlt : i < s1.length) (r : RepS X.K H' ρ' s1 σ') (t : Stp X.K ρ H ρ' H' m1)
    (h : PostS X W ρ H (ofR (m (s1.set i none) m1) (s1.set i none) fun u μ2 => .rt u μ2) D) (hD : D'.rt = D.rt := by rfl) : WSs (X.suite a0 ((a0, oe) :: pn2)) [.Return (some e) rp] D' (σ'.set i (some (.ref a0))) H' := by
  have r2 := r.hide i (some (.ref a0))
  have hl : i < σ'.length := by rw [← r.len]; exact hlt
  have hz2 : (σ'.set i (some (V.ref a0)))[i]? = some (some (.ref a0)) := by rw [List.getElem?_set_self hl]
  refine ⟨_, pss_one (ps_ret pe_w), ?_⟩
  refine hce ρ' m1 _ _ H' _ hz2 r2 t.mem ?_
  have h' : PostS X W ρ' H' (ofR (m (s1.set i none) m1) (s1.set i none) fun u μ2 => .rt u μ2) D := PostS.from t h
  exact PostS.bind r2 h' fun u μ1 y H1 ρ1 t1 r1 h1 => by rw [hD]; exact h1 y H1 ρ1 (Stp.refl t1.mem) r1
theorem cs_tryAs {x n : Str} {body : List Stmt} {e : Expr} {np pos pos' rp : Pos} {tab : List (Str × Bool)} {mb : FS} {ms : Str → FE} (G : Good X W k) (hN : X.N.Nodup) (hi : X.N[i]? = some n) (hln : X.env.kindOf n = some .local) (hx : Exn X.K X.mg x) (hg : Gl X x)
    (htab : ∀ q ∈ tab, Exm X.K X.mg q.1 x q.2)
    (hb : ∀ (W' : WX) (pn : List (Addr × Obj)) (xe : Value → Shared → Prop), Good (X.tr pn xe) W' k → CSs (X.tr pn xe) W' body mb)
    (hsu : ∀ (c : Str) (C a : Addr) (oe : Obj) (pn : List (Addr × Obj)), (c, true) ∈ tab → X.mg c = some (.ref C) → Zc (.ref C) none oe → (∃ vs, oe.data = .fields vs) → CEat (X.suite a ((a, oe) :: pn)) W i a e (ms c))
    (hst : X.stack = X.env :: X.outer := by rfl) (hfr : X.env.frame = some X.env.locals := by rfl) (hdb : (x == ("__debug__" : Str)) = false := by decide) :
    CS X W (.Try body [.ExceptHandler (some (.Name x np)) (some n) [.Return (some e) rp] pos'] [] [] pos) (sTryAs tab i mb ms) := by
  obtain ⟨C, h1, _⟩ := hx
  intro ρ μ s σ H D hs hm h
  refine ⟨_, ps_try_as (c := .ref C) hst hfr hN hi hln ⟨hg, hdb, .inl h1⟩ (Wout := W) (tb := fun W' D σ H => ∀ pn xe, Takes (X.tr pn xe) W' → PassesOwn (model X.prog X.w) X.A X.env xe → WSs (X.tr pn xe) body D σ H)
    (ts := fun a cls d D σ H => ∀ oe pn, Zc cls d oe → (∃ vs, oe.data = .fields vs) → WSs (X.suite a ((a, oe) :: pn)) [.Return (some e) rp] D σ H) G.tk
    (fun W' pn xe tk' po => ⟨fun pins s σ H D I h => pss_w.run pins s σ H D I (h pn xe tk' po)⟩) (fun a oe cls d pn hz hf => ⟨fun pins s σ H D I h => pss_w.run pins s σ H D I (h oe pn hz hf)⟩), ?_⟩
  intro pn xe tk' po
  refine hb _ pn xe (G.tr tk' po) ρ μ s σ H D hs hm ?_
  unfold sTryAs at h
  cases eb : mb s μ with
  | nx s1 m1 => rw [eb] at h; exact h
  | rt u m1 => rw [eb] at h; exact h
  | bk s1 m1 => rw [eb] at h; exact h
  | ct s1 m1 => rw [eb] at h; exact h
  | bad => rw [eb] at h; exact h
  | ex c' s1 m1 =>
    rw [eb] at h
    simp only at h
    intro cls σ' H' ρ' t r em
    cases hl : tab.lookup c' with
    | none => rw [hl] at h; exact h.elim
    | some b =>
      rw [hl] at h
      obtain ⟨Cx, Cy, e1, e2, e3⟩ := htab (c', b) (lookup_mem hl)
      simp only at e1 e2 e3
      have em' : X.mg c' = some cls := em
      rw [em'] at e1
      cases e1
      rw [h1] at e2
      cases e2
      refine ⟨b, e3, ?_, ?_⟩
      · rintro rfl a0 ha oe pn2 hz hf
        simp only at h
        split at h
        · rename_i hlt
          exact cs_tryAs_end (hsu c' Cx a0 oe pn2 (lookup_mem hl) em' hz hf) hlt r t h
        · exact h.elim
      · rintro rfl
        exact h _ σ' H' ρ' t r em
end
end Dg
/-! Dg12: x in TABLE, TABLE a dict of the module with text keys. -/
namespace Dg
open PySem PySem.Spec PyProof.Rows L2 RZ
theorem find_keys {z : Str} : ∀ {l : List DictEntry} {ks : List Str}, l.map keyN = ks.map some → l.any (·.refKey) = false ∧ (l.find? (·.key.isStr z)).isSome = decide (z ∈ ks)
  | [], ks, h => by
    have : ks = [] := by simpa using h.symm
    subst this
    simp
  | e :: l, [], h => by simp at h
  | e :: l, k :: ks, h => by
    simp only [List.map_cons, List.cons.injEq] at h
    obtain ⟨h1, h2⟩ := h
    obtain ⟨i1, i2⟩ := find_keys (z := z) h2
    unfold keyN at h1
    split at h1
    · rename_i x t ek
      cases h1
      have ek2 : e.refKey = false := by unfold DictEntry.refKey; rw [ek]
      refine ⟨by rw [List.any_cons, ek2, i1]; rfl, ?_⟩
      rw [List.find?_cons]
      by_cases hz : k = z
      · subst hz
        simp [ek, Value.isStr]
      · have : e.key.isStr z = false := by rw [ek]; simpa [Value.isStr] using hz
        rw [this]
        simp only [i2, List.mem_cons]
        simp [Ne.symm hz]
    · cases h1
theorem ns_keys {K : PySem.W.Frag} {a : Addr} {ks : List Str} (h : keysB K a ks = true) (z : Str) : ∃ r, PySem.W.nsIn K a z = some r ∧ r.isSome = decide (z ∈ ks) := by
  unfold keysB at h
  unfold PySem.W.nsIn
  split at h
  · rename_i oc od es n sl e
    obtain ⟨i1, i2⟩ := find_keys (z := z) (of_decide_eq_true h)
    rw [e]
    simp only
    cases ef : es.toList.find? (·.key.isStr z) with
    | some q => rw [ef] at i2; exact ⟨_, rfl, i2⟩
    | none => rw [ef] at i2; simp only [i1]; exact ⟨none, rfl, i2⟩
  · cases h
def KIn (K : PySem.W.Frag) (mg : Str → Option Value) (w : World) (x : Str) (ks : List Str) : Prop := ∃ a es n, mg x = some (.ref a) ∧ KDict K w a es n ∧ keysB K a ks = true
section
variable {X : Cx} {W : WX} {k : Nat}
def fKIn (ks : List Str) (a : FE) : FE := fun s μ => (a s μ).bind fun u μ1 => match u with
  | .str z => .ok (.bl (decide (z ∈ ks))) μ1
  | _ => .bad
theorem ce_kin {x : Str} {ks : List Str} {a : Expr} {ma : FE} {p pos : Pos} (hg : Gl X x) (h : KIn X.K X.mg X.w x ks) (ha : CE X W a ma) (hd : (x == ("__debug__" : Str)) = false := by decide) : CE X W (.Compare a [.In] [.Name x p] pos) (fKIn ks ma) := by
  obtain ⟨d, es, n, h1, h2, h3⟩ := h
  intro ρ μ s σ H Q hs hm q
  refine ⟨_, pe_cmpR (op_in_kd h2) pe_w (pe_glob hg h1 (v := .ref d) rfl hd) (by rfl), ?_⟩
  refine ha ρ μ s σ H _ hs hm (q.bind fun u μ1 y H1 ρ1 t1 r1 q1 => ?_)
  cases u with
  | str z =>
    cases r1
    obtain ⟨r, e1, e2⟩ := ns_keys h3 z
    refine ⟨z, r, rfl, rfl, e1, ?_⟩
    rw [e2]
    exact q1.ok (Stp.refl t1.mem) .bl
  | _ => exact q1.elim
theorem ce_knin {x : Str} {ks : List Str} {a : Expr} {ma : FE} {p pos : Pos} (hg : Gl X x) (h : KIn X.K X.mg X.w x ks) (ha : CE X W a ma) (hd : (x == ("__debug__" : Str)) = false := by decide) : CE X W (.Compare a [.NotIn] [.Name x p] pos) (fNot (fKIn ks ma)) := by
  obtain ⟨d, es, n, h1, h2, h3⟩ := h
  intro ρ μ s σ H Q hs hm q
  refine ⟨_, pe_cmpR (op_notIn_kd h2) pe_w (pe_glob hg h1 (v := .ref d) rfl hd) (by rfl), ?_⟩
  have q' : Post X W σ relV ρ H ((ma s μ).bind fun u μ1 => ((match u with
    | .str z => .ok (.bl (decide (z ∈ ks))) μ1
    | _ => .bad : Res U)).bind fun u μ1 => match u with
    | .bl b => .ok (.bl (!b)) μ1
    | _ => .bad) Q := by
    have e : fNot (fKIn ks ma) s μ = ((ma s μ).bind fun u μ1 => ((match u with
      | .str z => .ok (.bl (decide (z ∈ ks))) μ1
      | _ => .bad : Res U)).bind fun u μ1 => match u with
      | .bl b => .ok (.bl (!b)) μ1
      | _ => .bad) := by
      unfold fNot fKIn
      cases ma s μ <;> rfl
    rw [← e]; exact q
  refine ha ρ μ s σ H _ hs hm (q'.bind fun u μ1 y H1 ρ1 t1 r1 q1 => ?_)
  cases u with
  | str z =>
    cases r1
    obtain ⟨r, e1, e2⟩ := ns_keys h3 z
    refine ⟨z, r, rfl, rfl, e1, ?_⟩
    rw [e2]
    exact Post.ok (u := U.bl (!decide (z ∈ ks))) q1 (Stp.refl t1.mem) .bl
  | _ => exact q1.elim
def tKIn (ks : List Str) (a : FE) : FT := fun s μ => (a s μ).bind fun u μ1 => match u with
  | .str z => .ok (decide (z ∈ ks)) μ1
  | _ => .bad
theorem ct_kin {x : Str} {ks : List Str} {a : Expr} {ma : FE} {p pos : Pos} (hg : Gl X x) (h : KIn X.K X.mg X.w x ks) (ha : CE X W a ma) (hd : (x == ("__debug__" : Str)) = false := by decide) : CT X W (.Compare a [.In] [.Name x p] pos) (tKIn ks ma) := by
  obtain ⟨d, es, n, h1, h2, h3⟩ := h
  intro ρ μ s σ H Q hs hm q
  refine ⟨_, pt_cmpR (op_in_kd h2) pe_w (pe_glob hg h1 (v := .ref d) rfl hd) (by rfl), ?_⟩
  refine ha ρ μ s σ H _ hs hm (q.bind fun u μ1 y H1 ρ1 t1 r1 q1 => ?_)
  cases u with
  | str z =>
    cases r1
    obtain ⟨r, e1, e2⟩ := ns_keys h3 z
    refine ⟨z, r, rfl, rfl, e1, ?_⟩
    rw [e2]
    exact ⟨_, rfl, q1.ok (Stp.refl t1.mem) rfl⟩
  | _ => exact q1.elim
def tKNin (ks : List Str) (a : FE) : FT := fun s μ => (a s μ).bind fun u μ1 => match u with
  | .str z => .ok (!decide (z ∈ ks)) μ1
  | _ => .bad
theorem ct_knin {x : Str} {ks : List Str} {a : Expr} {ma : FE} {p pos : Pos} (hg : Gl X x) (h : KIn X.K X.mg X.w x ks) (ha : CE X W a ma) (hd : (x == ("__debug__" : Str)) = false := by decide) : CT X W (.Compare a [.NotIn] [.Name x p] pos) (tKNin ks ma) := by
  obtain ⟨d, es, n, h1, h2, h3⟩ := h
  intro ρ μ s σ H Q hs hm q
  refine ⟨_, pt_cmpR (op_notIn_kd h2) pe_w (pe_glob hg h1 (v := .ref d) rfl hd) (by rfl), ?_⟩
  refine ha ρ μ s σ H _ hs hm (q.bind fun u μ1 y H1 ρ1 t1 r1 q1 => ?_)
  cases u with
  | str z =>
    cases r1
    obtain ⟨r, e1, e2⟩ := ns_keys h3 z
    refine ⟨z, r, rfl, rfl, e1, ?_⟩
    rw [e2]
    exact ⟨_, rfl, q1.ok (Stp.refl t1.mem) rfl⟩
  | _ => exact q1.elim
end
theorem kin_ok {K : PySem.W.Frag} {h : Heap} {mg : Str → Option Value} {w : World} (KX : K.In h) (N : h.Ns mainGlobals mg) {x : Str} {ks : List Str} {es : Array DictEntry} {n : Nat} (c1 : (He.Fa.glo x).ok K = true) (c2 : (FaU.keys x ks).ok K = true) (D : KDict K w (He.ga K x) es n) : KIn K mg w x ks :=
  ⟨He.ga K x, es, n, He.glo_ok KX N c1, D, c2⟩
end Dg
/-! Dg13: list.index, list.insert, dict.get. -/
namespace Dg
open PySem PySem.Spec PyProof.Rows L2 RZ
section
variable {X : Cx} {W : WX} {k : Nat}
/-! ### list.index of flat values -/
def flU : U → Option V
  | .non => some .non
  | .bl b => some (.bl b)
  | .int i => some (.int i)
  | .str s => some (.str s)
  | _ => none
theorem flU_ok {K : PySem.W.Frag} {H : Hp} {ρ : List Addr} {u : U} {v x : V} (r : RepV K H ρ u v) (e : flU u = some x) : v = x ∧ flatV v = true := by
  cases r <;> simp only [flU, Option.some.injEq, reduceCtorEq] at e
  · subst e; exact ⟨rfl, rfl⟩
  · subst e; exact ⟨rfl, rfl⟩
  · subst e; exact ⟨rfl, rfl⟩
  · subst e; exact ⟨rfl, rfl⟩
def flUs : List U → Option (List V)
  | [] => some []
  | u :: us => match flU u, flUs us with
    | some v, some vs => some (v :: vs)
    | _, _ => none
theorem flUs_ok {K : PySem.W.Frag} {H : Hp} {ρ : List Addr} : ∀ {us : List U} {vs xs : List V}, RepVs K H ρ us vs → flUs us = some xs → vs = xs ∧ vs.all flatV = true
  | [], _, _, r, e => by cases r; cases e; exact ⟨rfl, rfl⟩
  | u :: us, _, xs, r, e => by
    cases r with
    | cons h t =>
      simp only [flUs] at e
      cases e1 : flU u with
      | none => rw [e1] at e; cases e
      | some v =>
        cases e2 : flUs us with
        | none => rw [e1, e2] at e; cases e
        | some vs =>
          rw [e1, e2] at e
          cases e
          obtain ⟨a1, a2⟩ := flU_ok h e1
          obtain ⟨b1, b2⟩ := flUs_ok t e2
          subst a1 b1
          exact ⟨rfl, by simp [a2, b2]⟩
def idxV (y : V) : List V → Option Nat
  | [] => none
  | z :: zs => if eqV z y then some 0 else (idxV y zs).map (· + 1)
theorem idxV_ok {y : V} : ∀ {zs : List V} {j : Nat}, idxV y zs = some j → (∃ z, zs[j]? = some z ∧ eqV z y = true) ∧ ∀ (m : Nat) (z' : V), m < j → zs[m]? = some z' → eqV z' y = false
  | [], j, e => by cases e
  | z :: zs, j, e => by
    simp only [idxV] at e
    by_cases h : eqV z y = true
    · rw [if_pos h] at e
      cases e
      exact ⟨⟨z, rfl, h⟩, fun m z' hm => by omega⟩
    · rw [if_neg h] at e
      cases e2 : idxV y zs with
      | none => rw [e2] at e; cases e
      | some i =>
        rw [e2] at e
        cases e
        obtain ⟨⟨w, a1, a2⟩, b⟩ := idxV_ok e2
        refine ⟨⟨w, by simpa using a1, a2⟩, fun m z' hm hz => ?_⟩
        cases m with
        | zero =>
          simp at hz
          subst hz
          simpa using h
        | succ m => exact b m z' (by have h2 : m + 1 < i + 1 := hm; omega) (by simpa using hz)
def gIndex (u : U) (us : List U) (μ : Mem) : Res U := match lstU μ u, us with
  | some xs, [w] => match flUs xs, flU w with
    | some vs, some y => match idxV y vs with
      | some j => .ok (.int (j : Nat)) μ
      | none => .bad
    | _, _ => .bad
  | _, _ => .bad
theorem gs_index : MtS X W "list.index" gIndex := by
  intro ρ μ σ H u us x vs Q hm ru rus h
  unfold gIndex at h
  split at h
  · rename_i xs w e1
    split at h
    · rename_i ws y e2 e3
      split at h
      · rename_i j e4
        obtain ⟨a, zs, rfl, hs, rr⟩ := lstU_ok hm ru e1
        cases rus with
        | cons r1 r2 =>
          cases r2
          obtain ⟨p1, p2⟩ := flU_ok r1 e3
          obtain ⟨q1, q2⟩ := flUs_ok rr e2
          subst p1 q1
          obtain ⟨⟨z, a1, a2⟩, a3⟩ := idxV_ok e4
          exact ⟨_, mt_index, a, _, _, j, z, rfl, rfl, hs, p2, q2, a1, a2, a3, h.ok (Stp.refl hm) .int⟩
      · exact h.elim
    · exact h.elim
  · exact h.elim
/-! ### list.insert -/
def gInsert (u : U) (us : List U) (μ : Mem) : Res U := match u, us with
  | .ref i, [.int n, w] => match μ[i]? with
    | some (.lst xs) => if xs.length < lim ∧ 0 ≤ n ∧ n < 2 ^ 62 then .ok .non (μ.set i (.lst (xs.take n.toNat ++ [w] ++ xs.drop n.toNat))) else .bad
    | _ => .bad
  | _, _ => .bad
theorem gs_insert : MtS X W "list.insert" gInsert := by
  intro ρ μ σ H u us x vs Q hm ru rus h
  unfold gInsert at h
  split at h
  · split at h
    · rename_i e
      split at h
      · rename_i hc
        cases ru with
        | ref hr =>
          cases rus with
          | cons r1 r2 =>
            cases r1
            cases r2 with
            | cons r1 r2 =>
              cases r2
              obtain ⟨ws, q, rr⟩ := lst_of hm hr e
              exact ⟨_, mt_insert, _, ws, _, _, rfl, rfl, q, by rw [← rr.length]; exact lim_lt hc.1, hc.2.1, by have := hc.2.2; omega, h.ok (putL hm hr e (((rr.take _).append (.one r1)).append (rr.drop _))) .non⟩
      · exact h.elim
    · exact h.elim
  · exact h.elim
end
end Dg
/-! Dg14: walks over dicts (locked meanwhile), dict.get. -/
namespace Dg
open PySem PySem.Spec PyProof.Rows L2 RZ
def kU : Key → U
  | .inl i => .int i
  | .inr x => .str x
section
variable {X : Cx} {W : WX} {k : Nat}
/-! ### locks -/
theorem TV.lock {H : Hp} {d : Addr} {u v : HO} (h : H d = some u) (hs : Sft u) : TV H (upd H d v) := (TX.put fun o' r => by rw [h] at r; cases r; exact hs).tv
theorem TV.unlock {H : Hp} {d : Addr} {o : Obj} {u v : HO} (h : H d = some (.frz o u)) (h1 : ∀ xs, u ≠ .tup xs) (h2 : ∀ xs, u ≠ .lst xs) : TV H (upd H d v) := ⟨fun a xs r => by
  rcases r with r | ⟨z, r⟩
  · have ne : a ≠ d := fun e => by rw [e, h] at r; cases r
    exact .inl (by rw [upd_ne ne]; exact r)
  · have ne : a ≠ d := fun e => by rw [e, h] at r; cases r; exact h1 _ rfl
    exact .inr ⟨z, by rw [upd_ne ne]; exact r⟩, fun a z u r => by
  have ne : a ≠ d := fun e => by rw [e, h] at r; cases r; exact h2 _ rfl
  rw [upd_ne ne]; exact r⟩
/-- from before a lock to behind it -/
theorem TX.across {H H' : Hp} {d : Addr} {o : Obj} {u : HO} (h0 : H d = some u) (hs : Sft u) (t : TX (upd H d (.frz o u)) H') (h1 : H' d = some (.frz o u)) (v : HO) : TX H (upd H' d v) := ⟨fun a xs r => by
  have ne : a ≠ d := fun e => by
    rcases r with r | ⟨z, r⟩
    · rw [e, h0] at r; cases r; exact hs.1 _ rfl
    · rw [e, h0] at r; cases r; exact hs.2 _ _ rfl
  have r2 : Rd (upd H d (.frz o u)) a (.tup xs) := by
    rcases r with r | ⟨z, r⟩
    · exact .inl (by rw [upd_ne ne]; exact r)
    · exact .inr ⟨z, by rw [upd_ne ne]; exact r⟩
  rcases t.1 a xs r2 with r | ⟨z, r⟩
  · exact .inl (by rw [upd_ne ne]; exact r)
  · exact .inr ⟨z, by rw [upd_ne ne]; exact r⟩, fun a z w r => by
  have ne : a ≠ d := fun e => by rw [e, h0] at r; cases r; exact hs.2 _ _ rfl
  rw [upd_ne ne]
  exact t.2 a z w (by rw [upd_ne ne]; exact r)⟩
theorem TX.into {H H' : Hp} {d : Addr} {o : Obj} {u : HO} (h0 : H d = some u) (hs : Sft u) (t : TX (upd H d (.frz o u)) H') : TX H H' := ⟨fun a xs r => by
  have ne : a ≠ d := fun e => by
    rcases r with r | ⟨z, r⟩
    · rw [e, h0] at r; cases r; exact hs.1 _ rfl
    · rw [e, h0] at r; cases r; exact hs.2 _ _ rfl
  refine t.1 a xs ?_
  rcases r with r | ⟨z, r⟩
  · exact .inl (by rw [upd_ne ne]; exact r)
  · exact .inr ⟨z, by rw [upd_ne ne]; exact r⟩, fun a z w r => by
  have ne : a ≠ d := fun e => by rw [e, h0] at r; cases r; exact hs.2 _ _ rfl
  exact t.2 a z w (by rw [upd_ne ne]; exact r)⟩
def lkC : Cell → Option Cell
  | .dct kus => some (.fdc kus)
  | _ => none
def ulC : Cell → Option Cell
  | .fdc kus => some (.dct kus)
  | _ => none
def ulM (r : Nat) (μ : Mem) : Option Mem := match μ[r]? with
  | some c => match ulC c with
    | some c' => some (μ.set r c')
    | none => none
  | none => none
def ulO (r : Nat) (o : Out) : Out := match o with
  | .nx s μ => match ulM r μ with
    | some μ' => .nx s μ'
    | none => .bad
  | .rt u μ => match ulM r μ with
    | some μ' => .rt u μ'
    | none => .bad
  | .bk s μ => match ulM r μ with
    | some μ' => .bk s μ'
    | none => .bad
  | .ct s μ => match ulM r μ with
    | some μ' => .ct s μ'
    | none => .bad
  | .ex c s μ => .ex c s μ
  | .bad => .bad
/-- the statement, while the dict that e names is locked -/
def sLock (e : FE) (b : FS) : FS := fun s μ => match e s μ with
  | .ok (.ref r) _ => match μ[r]? with
    | some c => match lkC c with
      | some c' => ulO r (b s (μ.set r c'))
      | none => b s μ
    | none => b s μ
  | _ => b s μ
theorem ulM_ok {K : PySem.W.Frag} {H H' : Hp} {ρ ρ' : List Addr} {μ' μ2 : Mem} {r : Nat} {d : Addr} {o : Obj} {u : HO} {kvs0 : List (Key × V)} (hu : u = .dK kvs0) (h0 : H d = some u) (hr : ρ[r]? = some d)
    (t : Stp K ρ (upd H d (.frz o u)) ρ' H' μ') (h1 : H' d = some (.frz o u)) (e : ulM r μ' = some μ2) : Stp K ρ H ρ' (upd H' d u) μ2 ∧ TV H' (upd H' d u) := by
  subst hu
  have tv : TV H' (upd H' d (.dK kvs0)) := TV.unlock h1 (fun _ => by simp) (fun _ => by simp)
  refine ⟨⟨t.ext, TX.across h0 (by simp [Sft]) t.tx h1 _, ?_⟩, tv⟩
  unfold ulM at e
  cases ec : μ'[r]? with
  | none => rw [ec] at e; cases e
  | some c =>
    rw [ec] at e
    cases c with
    | fdc kus =>
      cases e
      obtain ⟨o', kvs, q1, q2, q3⟩ := t.mem.get (t.ext.get hr) ec
      rw [h1] at q1
      cases q1
      exact t.mem.putV tv (t.ext.get hr) ⟨_, upd_same, q2, q3.monoV tv (Ext.refl _)⟩
    | _ => cases e
theorem cs_lock {st : Stmt} {e : FE} {m : FS} (h : CS X W st m) : CS X W st (sLock e m) := by
  intro ρ μ s σ H D hs hm p
  unfold sLock at p
  have plain : PostS X W ρ H (m s μ) D → WS X st D σ H := h ρ μ s σ H D hs hm
  split at p
  · rename_i r μ1 _
    split at p
    · rename_i c ec
      split at p
      · rename_i c' el
        cases c with
        | dct kus =>
          cases el
          have hlt : r < ρ.length := by rw [hm.len]; exact (List.getElem?_eq_some_iff.mp ec).1
          have hr : ρ[r]? = some ρ[r] := List.getElem?_eq_getElem hlt
          obtain ⟨kvs, q1, q2, q3⟩ := hm.get hr ec
          refine ⟨_, ps_lock ps_w, ρ[r], .dK kvs, q1, trivial, fun od => ?_⟩
          have tv : TV H (upd H ρ[r] (.frz od (.dK kvs))) := TV.lock q1 (by simp [Sft])
          have hm' : RepM X.K (upd H ρ[r] (.frz od (.dK kvs))) ρ (μ.set r (.fdc kus)) := hm.putV tv hr ⟨od, kvs, upd_same, q2, q3.monoV tv (Ext.refl _)⟩
          have hs' : RepS X.K (upd H ρ[r] (.frz od (.dK kvs))) ρ s σ := ⟨hs.len, fun i u e => by obtain ⟨v, a1, a2⟩ := hs.get i u e; exact ⟨v, a1, a2.monoV tv (Ext.refl _)⟩⟩
          refine h ρ (μ.set r (.fdc kus)) s σ _ _ hs' hm' ?_
          have frz : ∀ {ρ' H' μ'}, Stp X.K ρ (upd H ρ[r] (.frz od (.dK kvs))) ρ' H' μ' → H' ρ[r] = some (.frz od (.dK kvs)) := fun t => t.tx.2 _ _ _ upd_same
          cases eo : m s (μ.set r (.fdc kus)) with
          | nx s1 m1 =>
            rw [eo] at p
            intro σ' H' ρ' t rs
            refine ⟨frz t, ?_⟩
            simp only [ulO] at p
            split at p
            · rename_i m2 e2
              obtain ⟨t2, tv2⟩ := ulM_ok rfl q1 hr t (frz t) e2
              exact p σ' _ ρ' t2 ⟨rs.len, fun i u e => by obtain ⟨v, a1, a2⟩ := rs.get i u e; exact ⟨v, a1, a2.monoV tv2 (Ext.refl _)⟩⟩
            · exact p.elim
          | rt u m1 =>
            rw [eo] at p
            intro v H' ρ' t rv
            refine ⟨frz t, ?_⟩
            simp only [ulO] at p
            split at p
            · rename_i m2 e2
              obtain ⟨t2, tv2⟩ := ulM_ok rfl q1 hr t (frz t) e2
              exact p v _ ρ' t2 (rv.monoV tv2 (Ext.refl _))
            · exact p.elim
          | bk s1 m1 =>
            rw [eo] at p
            intro σ' H' ρ' t rs
            refine ⟨frz t, ?_⟩
            simp only [ulO] at p
            split at p
            · rename_i m2 e2
              obtain ⟨t2, tv2⟩ := ulM_ok rfl q1 hr t (frz t) e2
              exact p σ' _ ρ' t2 ⟨rs.len, fun i u e => by obtain ⟨v, a1, a2⟩ := rs.get i u e; exact ⟨v, a1, a2.monoV tv2 (Ext.refl _)⟩⟩
            · exact p.elim
          | ct s1 m1 =>
            rw [eo] at p
            intro σ' H' ρ' t rs
            refine ⟨frz t, ?_⟩
            simp only [ulO] at p
            split at p
            · rename_i m2 e2
              obtain ⟨t2, tv2⟩ := ulM_ok rfl q1 hr t (frz t) e2
              exact p σ' _ ρ' t2 ⟨rs.len, fun i u e => by obtain ⟨v, a1, a2⟩ := rs.get i u e; exact ⟨v, a1, a2.monoV tv2 (Ext.refl _)⟩⟩
            · exact p.elim
          | ex c2 s1 m1 =>
            rw [eo] at p
            intro cls σ' H' ρ' t rs em
            exact p cls σ' H' ρ' ⟨t.ext, TX.into q1 (by simp [Sft]) t.tx, t.mem⟩ rs em
          | bad => rw [eo] at p; exact p.elim
        | _ => cases el
      · exact plain p
    · exact plain p
  · exact plain p
/-- an expression, while the dict that e names is locked -/
def ulR (r : Nat) (o : Res U) : Res U := match o with
  | .ok u μ => match ulM r μ with
    | some μ' => .ok u μ'
    | none => .bad
  | .ex c μ => .ex c μ
  | .bad => .bad
def fLock (e : FE) (b : FE) : FE := fun s μ => match e s μ with
  | .ok (.ref r) _ => match μ[r]? with
    | some c => match lkC c with
      | some c' => ulR r (b s (μ.set r c'))
      | none => b s μ
    | none => b s μ
  | _ => b s μ
theorem ce_lock {x : Expr} {e : FE} {m : FE} (h : CE X W x m) : CE X W x (fLock e m) := by
  intro ρ μ s σ H Q hs hm p
  unfold fLock at p
  have plain : Post X W σ relV ρ H (m s μ) Q → WE X x σ H Q := h ρ μ s σ H Q hs hm
  split at p
  · rename_i r μ1 _
    split at p
    · rename_i c ec
      split at p
      · rename_i c' el
        cases c with
        | dct kus =>
          cases el
          have hlt : r < ρ.length := by rw [hm.len]; exact (List.getElem?_eq_some_iff.mp ec).1
          have hr : ρ[r]? = some ρ[r] := List.getElem?_eq_getElem hlt
          obtain ⟨kvs, q1, q2, q3⟩ := hm.get hr ec
          refine ⟨_, pe_lock pe_w, ρ[r], .dK kvs, q1, trivial, fun od => ?_⟩
          have tv : TV H (upd H ρ[r] (.frz od (.dK kvs))) := TV.lock q1 (by simp [Sft])
          have hm' : RepM X.K (upd H ρ[r] (.frz od (.dK kvs))) ρ (μ.set r (.fdc kus)) := hm.putV tv hr ⟨od, kvs, upd_same, q2, q3.monoV tv (Ext.refl _)⟩
          have hs' : RepS X.K (upd H ρ[r] (.frz od (.dK kvs))) ρ s σ := ⟨hs.len, fun i u e => by obtain ⟨v, a1, a2⟩ := hs.get i u e; exact ⟨v, a1, a2.monoV tv (Ext.refl _)⟩⟩
          refine h ρ (μ.set r (.fdc kus)) s σ _ _ hs' hm' ?_
          have frz : ∀ {ρ' H' μ'}, Stp X.K ρ (upd H ρ[r] (.frz od (.dK kvs))) ρ' H' μ' → H' ρ[r] = some (.frz od (.dK kvs)) := fun t => t.tx.2 _ _ _ upd_same
          cases eo : m s (μ.set r (.fdc kus)) with
          | ok u m1 =>
            rw [eo] at p
            intro v H' ρ' t rv
            refine ⟨frz t, ?_⟩
            simp only [ulR] at p
            split at p
            · rename_i m2 e2
              obtain ⟨t2, tv2⟩ := ulM_ok rfl q1 hr t (frz t) e2
              exact p v _ ρ' t2 (RepV.monoV tv2 (Ext.refl _) rv)
            · exact p.elim
          | ex c2 m1 =>
            rw [eo] at p
            intro cls H' ρ' t em
            exact p cls H' ρ' ⟨t.ext, TX.into q1 (by simp [Sft]) t.tx, t.mem⟩ em
          | bad => rw [eo] at p; exact p.elim
        | _ => cases el
      · exact plain p
    · exact plain p
  · exact plain p
/-! ### walks of a locked dict -/
def fdcU (μ : Mem) : U → Option (List (Key × U))
  | .ref r => match μ[r]? with
    | some (.fdc kus) => some kus
    | some (.dct _) => none
    | some (.lst _) => none
    | some (.dtt _) => none
    | some (.fdt _) => none
    | some (.obj _ _) => none
    | none => none
  | _ => none
theorem fdcU_ok {K : PySem.W.Frag} {H : Hp} {ρ : List Addr} {μ : Mem} (hm : RepM K H ρ μ) {u : U} {v : V} {kus : List (Key × U)} (r : RepV K H ρ u v) (e : fdcU μ u = some kus) : ∃ a o kvs, v = .ref a ∧ H a = some (.frz o (.dK kvs)) ∧ kvs.map (·.1) = kus.map (·.1) ∧ RepVs K H ρ (kus.map (·.2)) (kvs.map (·.2)) := by
  cases r with
  | ref hr =>
    obtain ⟨c, hc, rc⟩ := hm.at hr
    simp only [fdcU, hc] at e
    cases c with
    | fdc us => cases e; obtain ⟨o, kvs, a, b, c⟩ := rc; exact ⟨_, o, kvs, rfl, a, b, c⟩
    | _ => cases e
  | _ => cases e
theorem kv_at {K : PySem.W.Frag} {H : Hp} {ρ : List Addr} {kus : List (Key × U)} {kvs : List (Key × V)} (h : kvs.map (·.1) = kus.map (·.1)) (r : RepVs K H ρ (kus.map (·.2)) (kvs.map (·.2))) {i : Nat} {k : Key} {v : V} (e : kvs[i]? = some (k, v)) : ∃ u, kus[i]? = some (k, u) ∧ RepV K H ρ u v := by
  have hl : kvs.length = kus.length := by simpa using congrArg List.length h
  have hi : i < kus.length := by rw [← hl]; exact (List.getElem?_eq_some_iff.mp e).1
  have e1 : (kus.map (·.1))[i]? = some k := by rw [← h, List.getElem?_map, e]; rfl
  rw [List.getElem?_map, List.getElem?_eq_getElem hi] at e1
  have e2 : (kus.map (·.2))[i]? = some kus[i].2 := by rw [List.getElem?_map, List.getElem?_eq_getElem hi]; rfl
  obtain ⟨v', a1, a2⟩ := r.get e2
  rw [List.getElem?_map, e] at a1
  cases a1
  simp at e1
  exact ⟨kus[i].2, by rw [List.getElem?_eq_getElem hi, ← e1], a2⟩
theorem rep_kU {K : PySem.W.Frag} {H : Hp} {ρ : List Addr} {k : Key} (hk : keyOk k = true) : RepV K H ρ (kU k) (kV k) := by
  cases k with
  | inl i => exact .int
  | inr x => exact .str hk
def itemsU (kus : List (Key × U)) : List U := kus.map fun p => .tup [kU p.1, p.2]
def keysU (kus : List (Key × U)) : List U := kus.map fun p => kU p.1
def valsU (kus : List (Key × U)) : List U := kus.map fun p => p.2
def ksOk (kus : List (Key × U)) : Bool := kus.all fun p => keyOk p.1
theorem it_items {K : PySem.W.Frag} {H : Hp} {ρ : List Addr} {d : Addr} {o : Obj} {kvs : List (Key × V)} {kus : List (Key × U)} (hd : H d = some (.frz o (.dK kvs))) (hk : kvs.map (·.1) = kus.map (·.1)) (hr : RepVs K H ρ (kus.map (·.2)) (kvs.map (·.2))) (ok : ksOk kus = true) :
    ItOk K ρ H (.seq (itemsU kus)) (Iti d o kvs) := by
  intro i ρ' H' μ' ex tx hm
  simp only [itemAt]
  have hl : kvs.length = kus.length := by simpa using congrArg List.length hk
  have hd' := tx.2 _ _ _ hd
  have hr' := hr.mono tx ex
  by_cases hi : i < kus.length
  · have e : (itemsU kus)[i]? = some (.tup [kU kus[i].1, kus[i].2]) := by simp [itemsU, hi]
    rw [e]
    refine ⟨⟨hd', by omega⟩, ?_⟩
    rintro x H'' ⟨T, k, v, q1, rfl, q2, rfl⟩
    obtain ⟨u, a1, a2⟩ := kv_at hk hr' q1
    rw [List.getElem?_eq_getElem hi] at a1
    have a3 : kus[i] = (k, u) := Option.some.inj a1
    have ek : keyOk k = true := by
      have := List.all_eq_true.mp ok kus[i] (List.getElem_mem hi)
      rw [a3] at this
      exact this
    rw [a3]
    exact ⟨Stp.temp hm q2, newT q2 (.cons (rep_kU ek) (.one a2))⟩
  · have e : (itemsU kus)[i]? = none := by simp [itemsU]; omega
    rw [e]
    exact ⟨hd', by omega⟩
theorem it_keys {K : PySem.W.Frag} {H : Hp} {ρ : List Addr} {d : Addr} {o : Obj} {kvs : List (Key × V)} {kus : List (Key × U)} (hd : H d = some (.frz o (.dK kvs))) (hk : kvs.map (·.1) = kus.map (·.1)) (hr : RepVs K H ρ (kus.map (·.2)) (kvs.map (·.2))) (ok : ksOk kus = true) :
    ItOk K ρ H (.seq (keysU kus)) (Itk d o kvs) := by
  intro i ρ' H' μ' ex tx hm
  simp only [itemAt]
  have hl : kvs.length = kus.length := by simpa using congrArg List.length hk
  have hd' := tx.2 _ _ _ hd
  have hr' := hr.mono tx ex
  by_cases hi : i < kus.length
  · have e : (keysU kus)[i]? = some (kU kus[i].1) := by simp [keysU, hi]
    rw [e]
    refine ⟨⟨hd', by omega⟩, ?_⟩
    rintro x H'' ⟨rfl, k, v, q1, rfl⟩
    obtain ⟨u, a1, a2⟩ := kv_at hk hr' q1
    rw [List.getElem?_eq_getElem hi] at a1
    have a3 : kus[i] = (k, u) := Option.some.inj a1
    have ek : keyOk k = true := by
      have := List.all_eq_true.mp ok kus[i] (List.getElem_mem hi)
      rw [a3] at this
      exact this
    rw [a3]
    exact ⟨Stp.refl hm, rep_kU ek⟩
  · have e : (keysU kus)[i]? = none := by simp [keysU]; omega
    rw [e]
    exact ⟨hd', by omega⟩
theorem it_vals {K : PySem.W.Frag} {H : Hp} {ρ : List Addr} {d : Addr} {o : Obj} {kvs : List (Key × V)} {kus : List (Key × U)} (hd : H d = some (.frz o (.dK kvs))) (hk : kvs.map (·.1) = kus.map (·.1)) (hr : RepVs K H ρ (kus.map (·.2)) (kvs.map (·.2))) :
    ItOk K ρ H (.seq (valsU kus)) (Itd d o kvs) := by
  intro i ρ' H' μ' ex tx hm
  simp only [itemAt]
  have hl : kvs.length = kus.length := by simpa using congrArg List.length hk
  have hd' := tx.2 _ _ _ hd
  have hr' := hr.mono tx ex
  by_cases hi : i < kus.length
  · have e : (valsU kus)[i]? = some (kus[i].2) := by simp [valsU, hi]
    rw [e]
    refine ⟨⟨hd', by omega⟩, ?_⟩
    rintro x H'' ⟨rfl, k, q1⟩
    obtain ⟨u, a1, a2⟩ := kv_at hk hr' q1
    rw [List.getElem?_eq_getElem hi] at a1
    have a3 : kus[i] = (k, u) := Option.some.inj a1
    rw [a3]
    exact ⟨Stp.refl hm, a2⟩
  · have e : (valsU kus)[i]? = none := by simp [valsU]; omega
    rw [e]
    exact ⟨hd', by omega⟩
def iItems (a : FE) : FI := fun s μ => (a s μ).bind fun u μ1 => match fdcU μ1 u with
  | some kus => if ksOk kus = true then .ok (.seq (itemsU kus)) μ1 else .bad
  | none => .bad
theorem ci_items {e : Expr} {me : FE} {apos cpos tpos : Pos} {elts : List Expr} {kk : Nat} (he : CE X W e me) (hbase : attributeBase e "items" X.env (eval e X.env) = eval e X.env := by rfl) (hline : (apos.endLine == cpos.line) = true := by rfl) :
    CI X W (.Tuple elts kk tpos) (.Call (.Attribute e "items" apos) [] [] cpos) (Dg.iItems me) := by
  intro ρ μ s σ H R hs hm h
  refine ⟨_, pi_items pe_w hbase hline, ?_⟩
  refine he ρ μ s σ H _ hs hm (h.bind fun u μ1 x H1 ρ1 t1 r1 h1 => ?_)
  split at h1
  · rename_i kus ek
    split at h1
    · rename_i ok
      obtain ⟨a, o, kvs, rfl, q1, q2, q3⟩ := fdcU_ok t1.mem r1 ek
      exact ⟨a, o, kvs, rfl, q1, h1.ok (Stp.refl t1.mem) (it_items q1 q2 q3 ok)⟩
    · exact h1.elim
  · exact h1.elim
def iVals (a : FE) : FI := fun s μ => (a s μ).bind fun u μ1 => match fdcU μ1 u with
  | some kus => .ok (.seq (valsU kus)) μ1
  | none => .bad
theorem ci_vals {tg e : Expr} {me : FE} {apos cpos : Pos} (he : CE X W e me) (hbase : attributeBase e "values" X.env (eval e X.env) = eval e X.env := by rfl) (hline : (apos.endLine == cpos.line) = true := by rfl) :
    CI X W tg (.Call (.Attribute e "values" apos) [] [] cpos) (Dg.iVals me) := by
  intro ρ μ s σ H R hs hm h
  refine ⟨_, pi_values pe_w hbase hline, ?_⟩
  refine he ρ μ s σ H _ hs hm (h.bind fun u μ1 x H1 ρ1 t1 r1 h1 => ?_)
  split at h1
  · rename_i kus ek
    obtain ⟨a, o, kvs, rfl, q1, q2, q3⟩ := fdcU_ok t1.mem r1 ek
    exact ⟨a, o, kvs, rfl, q1, h1.ok (Stp.refl t1.mem) (it_vals q1 q2 q3)⟩
  · exact h1.elim
/-- for k in d -/
def iKeys (a : FE) : FI := fun s μ => (a s μ).bind fun u μ1 => match fdcU μ1 u with
  | some kus => if ksOk kus = true then .ok (.seq (keysU kus)) μ1 else .bad
  | none => .bad
theorem ci_keys {tg e : Expr} {me : FE} (he : CE X W e me) : CI X W tg e (Dg.iKeys me) := by
  intro ρ μ s σ H R hs hm h
  refine ⟨_, pi_keys pe_w, ?_⟩
  refine he ρ μ s σ H _ hs hm (h.bind fun u μ1 x H1 ρ1 t1 r1 h1 => ?_)
  split at h1
  · rename_i kus ek
    split at h1
    · rename_i ok
      obtain ⟨a, o, kvs, rfl, q1, q2, q3⟩ := fdcU_ok t1.mem r1 ek
      exact ⟨a, o, rfl, .inl ⟨kvs, q1, h1.ok (Stp.refl t1.mem) (it_keys q1 q2 q3 ok)⟩⟩
    · exact h1.elim
  · exact h1.elim
/-! ### d.get(k, x) -/
def rdU (μ : Mem) : U → Option (List (Key × U))
  | .ref r => match μ[r]? with
    | some (.fdc kus) => some kus
    | some (.dct kus) => some kus
    | some (.lst _) => none
    | some (.dtt _) => none
    | some (.fdt _) => none
    | some (.obj _ _) => none
    | none => none
  | _ => none
theorem rdU_ok {K : PySem.W.Frag} {H : Hp} {ρ : List Addr} {μ : Mem} (hm : RepM K H ρ μ) {u : U} {v : V} {kus : List (Key × U)} (r : RepV K H ρ u v) (e : rdU μ u = some kus) : ∃ a kvs, v = .ref a ∧ Rd H a (.dK kvs) ∧ RepKV K H ρ kus kvs := by
  cases r with
  | ref hr =>
    obtain ⟨c, hc, rc⟩ := hm.at hr
    simp only [rdU, hc] at e
    cases c with
    | fdc us => cases e; obtain ⟨o, kvs, a, b, c⟩ := rc; exact ⟨_, kvs, rfl, .inr ⟨o, a⟩, b, c⟩
    | dct us => cases e; obtain ⟨kvs, a, b, c⟩ := rc; exact ⟨_, kvs, rfl, .inl a, b, c⟩
    | _ => cases e
  | _ => cases e
def fGet (d a b : FE) : FE := fun s μ => (d s μ).bind fun x μ1 => match rdU μ1 x with
  | none => .bad
  | some _ => (a s μ1).bind fun y μ2 => (b s μ2).bind fun z μ3 => match rdU μ3 x, keyU y with
    | some kus, some k => .ok ((valU kus k).getD z) μ3
    | _, _ => .bad
theorem ce_get {d e f : Expr} {md me mf : FE} {apos cpos : Pos} (G : Good X W (k + 40)) (hd : CE X W d md) (he : CE X W e me) (hf : CE X W f mf) (m : M2 X d "get" apos e f cpos) :
    CE X W (.Call (.Attribute d "get" apos) [e, f] [] cpos) (fGet md me mf) := by
  intro ρ μ s σ H Q hs hm h
  refine ⟨_, pe_dget2 G.hu pe_w pe_w pe_w m, ?_⟩
  refine hd ρ μ s σ H _ hs hm (h.bind fun x μ1 xv H1 ρ1 t1 r1 h1 => ?_)
  cases ex : rdU μ1 x with
  | none => rw [ex] at h1; exact h1.elim
  | some kus0 =>
    rw [ex] at h1
    obtain ⟨a, kvs, rfl, q1, _⟩ := rdU_ok t1.mem r1 ex
    refine ⟨a, rfl, ?_, ?_⟩
    · exact .inl ⟨kvs, q1⟩
    · refine he ρ1 μ1 s σ H1 _ (t1.s hs) t1.mem (h1.bind fun y μ2 yv H2 ρ2 t2 r2 h2 => ?_)
      refine hf ρ2 μ2 s σ H2 _ (t2.s (t1.s hs)) t2.mem (h2.bind fun z μ3 zv H3 ρ3 t3 r3 h3 => ?_)
      split at h3
      · rename_i kus k' e1 e2
        obtain ⟨a', kvs', ea, q2, rk⟩ := rdU_ok t3.mem (t3.v (t2.v r1)) e1
        cases ea
        refine ⟨valV kvs' k', .inl ⟨kvs', k', q2, keyU_ok (t3.v r2) e2, rfl⟩, ?_⟩
        have hv := rk.val (k := k')
        cases ev : valU kus k' with
        | none =>
          rw [ev] at h3
          rw [hv.2 ev]
          exact h3.ok (Stp.refl t3.mem) r3
        | some u =>
          rw [ev] at h3
          obtain ⟨v, b1, b2⟩ := hv.1 u ev
          rw [b1]
          exact h3.ok (Stp.refl t3.mem) b2
      · exact h3.elim
end
end Dg
/-! Dg15: try .. except C as e: any suite that asks e by isinstance alone. -/
namespace Dg
open PySem PySem.Spec PyProof.Rows L2 RZ
theorem fa_nil {α : Type} {P : α → Prop} : ∀ y ∈ ([] : List α), P y := fun y hy => nomatch hy
theorem fa_cons {α : Type} {P : α → Prop} {x : α} {l : List α} (h : P x) (r : ∀ y ∈ l, P y) : ∀ y ∈ x :: l, P y := by
  intro y hy
  rcases List.mem_cons.mp hy with rfl | hy
  · exact h
  · exact r y hy
/-! ### isinstance(e, (A, B)) -/
theorem call_isET {X : Cx} {a D : Addr} {oe : Obj} {pn : List (Addr × Obj)} (C : ExcC X.K D) (hz : Zc (.ref D) none oe) (hf : ∃ vs, oe.data = .fields vs) :
    CallR (X.suite a ((a, oe) :: pn)) (.builtin "isinstance") (fun xs H Q => ∃ (T : Addr) (cs : List Addr) (b : Bool), xs = [.ref a, .ref T] ∧ H T = some (.tup (cs.map V.ref)) ∧ PySem.W.kitAny X.K (.ref D) (cs.map Value.ref) = some b ∧ Q (.bl b) H) := by
  intro pins s σ H xs us Q I r h
  obtain ⟨T, cs, b, rfl, hT, e, q⟩ := h
  cases r with
  | cons rx rr =>
    cases rr with
    | cons rt rr =>
      cases rr
      cases rx
      cases rt
      obtain ⟨hget, _⟩ := I.pin (a, oe) (List.mem_append.mpr (.inl List.mem_cons_self))
      obtain ⟨vs, hv⟩ := hf
      have J : PySem.W.InstAt s.heap a oe D none := by
        obtain ⟨oc, od, oda, osl⟩ := oe
        obtain ⟨h1, h2⟩ := hz
        dsimp only at h1 h2 hv
        subst h1 h2 hv
        exact ⟨hget, rfl, rfl, trivial⟩
      obtain ⟨hlen, its, rv, o, h1, h2, n, h3⟩ := (show ObjOk X.prog X.w H s.heap T (.tup (cs.map V.ref)) from I.hok T _ hT)
      have e3 : its = cs.map Value.ref := by
        clear e hT h3 q h1 h2 hlen
        induction cs generalizing its with
        | nil => cases rv; rfl
        | cons c cs ih =>
          cases rv with
          | cons r1 r2 =>
            cases r1
            rw [ih _ r2]
            rfl
      subst e3
      obtain ⟨oc, od, dt, sl⟩ := o
      simp only at h2 h3
      subst h2 h3
      exact PySem.W.kia_tup (PySem.W.handS_kitx_exc C.hg C.hk C.hs C.hd C.ha C.hn C.ht C.hm) I.kIn J h1 e (fun z => nomatch z) fun tk => ⟨.bl b, H, I.kept (t' := tk) fun _ _ z => z, rfl, q⟩
/-- the class x among the classes ys, or not -/
def IsxT (K : PySem.W.Frag) (mg : Str → Option Value) (x : Str) (ys : List Str) (b : Bool) : Prop := ∃ (D : Addr) (Cs : List Addr), mg x = some (.ref D) ∧ ExcC K D ∧ Paired (fun (y : Str) (C : Addr) => mg y = some (.ref C)) ys Cs ∧ PySem.W.kitAny K (.ref D) (Cs.map Value.ref) = some b
theorem isxT_one {K : PySem.W.Frag} {mg : Str → Option Value} {x y : Str} {b : Bool} (h : Isx K mg x y b) : IsxT K mg x [y] b := by
  obtain ⟨D, C, h1, h2, h3, h4⟩ := h
  refine ⟨D, [C], h1, h3, .cons h2 .nil, ?_⟩
  show PySem.W.kitAny K (.ref D) [.ref C] = some b
  cases b with
  | true => exact kitAny_cons h4 (fun z => nomatch z) (fun _ => rfl)
  | false => exact kitAny_cons h4 (fun _ => rfl) (fun z => nomatch z)
theorem isxT_cons {K : PySem.W.Frag} {mg : Str → Option Value} {x y : Str} {b c : Bool} {ys : List Str} (h : Isx K mg x y b) (r : IsxT K mg x ys c) : IsxT K mg x (y :: ys) (b || c) := by
  obtain ⟨D, C, h1, h2, h3, h4⟩ := h
  obtain ⟨D2, Cs, r1, r2, r3, r4⟩ := r
  rw [h1] at r1
  cases r1
  refine ⟨D, C :: Cs, h1, h3, .cons h2 r3, ?_⟩
  show PySem.W.kitAny K (.ref D) (.ref C :: Cs.map Value.ref) = some (b || c)
  cases b with
  | true => exact kitAny_cons h4 (fun z => nomatch z) (fun _ => rfl)
  | false => exact kitAny_cons h4 (fun _ => by simpa using r4) (fun z => nomatch z)
theorem isxT_tab0 {K : PySem.W.Frag} {mg : Str → Option Value} {ys : List Str} : ∀ q ∈ ([] : List (Str × Bool)), IsxT K mg q.1 ys q.2 := fun q hq => nomatch hq
theorem isxT_tab {K : PySem.W.Frag} {mg : Str → Option Value} {x : Str} {ys : List Str} {b : Bool} {l : List (Str × Bool)} (h : IsxT K mg x ys b) (r : ∀ q ∈ l, IsxT K mg q.1 ys q.2) : ∀ q ∈ ((x, b) :: l), IsxT K mg q.1 ys q.2 := by
  intro q hq
  rcases List.mem_cons.mp hq with rfl | hq
  · exact h
  · exact r q hq
section
variable {X : Cx} {W : WX} {k i : Nat} {a : Addr}
/-- names of classes as arguments of a display -/
def names (ys : List Str) (ps : List Pos) : List Expr := (ys.zip ps).map fun p => Expr.Name p.1 p.2
theorem pa_names {X : Cx} {ys : List Str} {ps : List Pos} {Cs : List Addr} (hl : ys.length = ps.length) (hp : Paired (fun (y : Str) (C : Addr) => X.mg y = some (.ref C)) ys Cs) (hg : ∀ y ∈ ys, Gl X y) (hd : ∀ y ∈ ys, (y == ("__debug__" : Str)) = false)
    (hse : ∀ (y : Str) (p : Pos) (es : List Expr), starEach (.Name y p :: es) X.env = (false, eval (.Name y p) X.env) :: starEach es X.env) :
    ∃ t, PA X (names ys ps) t ∧ ∀ σ H (Q : List V → Hp → Prop), Q (Cs.map V.ref) H → t σ H Q := by
  induction hp generalizing ps with
  | nil => cases ps with
    | nil => exact ⟨_, pa_nil, fun σ H Q q => q⟩
    | cons p ps => cases hl
  | @cons y C ys Cs h r ih =>
    cases ps with
    | nil => cases hl
    | cons p ps =>
      obtain ⟨t, h1, h2⟩ := ih (ps := ps) (by simpa using hl) (fun y hy => hg y (by simp [hy])) (fun y hy => hd y (by simp [hy]))
      refine ⟨_, pa_cons (pe_glob (hg y (by simp)) h (v := .ref C) rfl (hd y (by simp))) h1 (hse _ _ _), fun σ H Q q => ?_⟩
      exact h2 σ H _ q
theorem at_isXT {D : Addr} {oe : Obj} {pn : List (Addr × Obj)} {n c : Str} {ys : List Str} {ps : List Pos} {tab : List (Str × Bool)} {p p1 tpos pos : Pos} {kk : Nat} (ht : ∀ q ∈ tab, IsxT X.K X.mg q.1 ys q.2) (hc : X.mg c = some (.ref D)) (hz : Zc (.ref D) none oe) (hf : ∃ vs, oe.data = .fields vs)
    (hN : X.N[i]? = some n) (hv : Vis X.env.scope n) (hl : ys.length = ps.length) (hgy : ∀ y ∈ ys, Gl X y) (hdy : ∀ y ∈ ys, (y == ("__debug__" : Str)) = false) (hg : Gl X "isinstance") (hm0 : X.mg "isinstance" = none) (hlen : ys.length ≤ 100)
    (hd : (n == ("__debug__" : Str)) = false := by decide) (hcd : (n == ("__classdict__" : Str)) = false := by decide)
    (hse : ∀ (y : Str) (p : Pos) (es : List Expr), starEach (.Name y p :: es) (X.suite a ((a, oe) :: pn)).env = (false, eval (.Name y p) (X.suite a ((a, oe) :: pn)).env) :: starEach es (X.suite a ((a, oe) :: pn)).env)
    (he : starEach [.Name n p1, .Tuple (names ys ps) kk tpos] (X.suite a ((a, oe) :: pn)).env = (false, eval (.Name n p1) (X.suite a ((a, oe) :: pn)).env) :: starEach [.Tuple (names ys ps) kk tpos] (X.suite a ((a, oe) :: pn)).env := by rfl)
    (he2 : starEach [.Tuple (names ys ps) kk tpos] (X.suite a ((a, oe) :: pn)).env = (false, eval (.Tuple (names ys ps) kk tpos) (X.suite a ((a, oe) :: pn)).env) :: starEach [] (X.suite a ((a, oe) :: pn)).env := by rfl)
    (hpl : (backTo pos (starEach [.Tuple (names ys ps) kk tpos] (X.suite a ((a, oe) :: pn)).env)).any (·.1) = false := by rfl) :
    CEat (X.suite a ((a, oe) :: pn)) W i a (.Call (.Name "isinstance" p) [.Name n p1, .Tuple (names ys ps) kk tpos] [] pos) (fIsX tab c) := by
  unfold fIsX
  cases hlk : tab.lookup c with
  | none => exact fun ρ μ s σ H Q _ _ _ q => q.elim
  | some b =>
    obtain ⟨D2, Cs, e1, e3, e4, e5⟩ := ht (c, b) (lookup_mem hlk)
    simp only at e1 e3 e4 e5
    rw [hc] at e1
    cases e1
    intro ρ μ s σ H Q hi hs hm h
    have hv1 : PE (X.suite a ((a, oe) :: pn)) (.Name n p1) (tVar i) := pe_var hN hv hd hcd
    obtain ⟨t, g1, g2⟩ := pa_names (X := X.suite a ((a, oe) :: pn)) hl e4 hgy hdy hse
    refine ⟨_, pe_callB (call_isET e3 hz hf) hg hm0 bt_isinstance (pa_cons hv1 (pa_cons (pe_tup g1) pa_nil he2) he) (he := he) (hpl := hpl), ?_⟩
    refine ⟨.ref a, hi, ?_⟩
    refine g2 σ H _ ⟨?_, fun T np => ?_⟩
    · have := Paired.length e4
      simp only [List.length_map]
      rw [← this]
      exact lim_le (by simp [lim]; omega)
    · exact ⟨T, Cs, b, rfl, upd_same, e5, h.ok (Stp.temp hm np) .bl⟩
/-! ### tests where slot i holds a -/
def CTat (X : Cx) (W : WX) (i : Nat) (a : Addr) (e : Expr) (m : FT) : Prop := ∀ ρ μ s σ H Q, σ[i]? = some (some (.ref a)) → RepS X.K H ρ s σ → RepM X.K H ρ μ → Post X W σ relB ρ H (m s μ) Q → WT X e σ H Q
def CWat (X : Cx) (W : WX) (i : Nat) (a : Addr) (e : Expr) (m : FT) : Prop := ∀ ρ μ s σ H Q, σ[i]? = some (some (.ref a)) → RepS X.K H ρ s σ → RepM X.K H ρ μ → Post X W σ relB ρ H (m s μ) Q → WW X e σ H Q
theorem tat_of {e : Expr} {m : FT} (h : CT X W e m) : CTat X W i a e m := fun ρ μ s σ H Q _ hs hm q => h ρ μ s σ H Q hs hm q
theorem tat_val {e : Expr} {ma : FE} (ha : CEat X W i a e ma) (he : ∀ whole, isTrue e X.env whole = (do let v ← whole; standAt e.pos; holding [v] (truthy v)) := by intro _; rfl) : CTat X W i a e (tst ma) := by
  intro ρ μ s σ H Q hi hs hm h
  refine ⟨_, pt_truth pe_w he, ?_⟩
  refine ha ρ μ s σ H _ hi hs hm (h.bind fun u μ1 x H1 ρ1 t1 r1 h1 => ?_)
  cases e : truU μ1 u with
  | none => rw [e] at h1; exact h1.elim
  | some b =>
    rw [e] at h1
    exact ⟨b, truU_ok t1.mem r1 e, h1.ok (Stp.refl t1.mem) rfl⟩
theorem tat_not {e : Expr} {ta : FT} {pos : Pos} (ha : CTat X W i a e ta) : CTat X W i a (.UnaryOp .Not e pos) (tNt ta) := by
  intro ρ μ s σ H Q hi hs hm h
  refine ⟨_, pt_not pt_w, ?_⟩
  refine ha ρ μ s σ H _ hi hs hm (h.bind fun b μ1 x H1 ρ1 t1 r1 h1 => ?_)
  cases r1
  exact h1.ok (Stp.refl t1.mem) rfl
theorem CWat.ct {e : Expr} {m : FT} (h : CWat X W i a e m) : CTat X W i a e m := fun ρ μ s σ H Q hi hs hm p => by
  obtain ⟨t, h1, h2⟩ := h ρ μ s σ H Q hi hs hm p
  exact ⟨t, h1.pt, h2⟩
theorem wat_and1 {e : Expr} {ta : FT} {pos : Pos} (ha : CTat X W i a e ta) : CWat X W i a (.BoolOp .And [e] pos) ta := fun ρ μ s σ H Q hi hs hm p => ⟨_, pw_and1 pt_w, ha ρ μ s σ H Q hi hs hm p⟩
theorem wat_or1 {e : Expr} {ta : FT} {pos : Pos} (ha : CTat X W i a e ta) : CWat X W i a (.BoolOp .Or [e] pos) ta := fun ρ μ s σ H Q hi hs hm p => ⟨_, pw_or1 pt_w, ha ρ μ s σ H Q hi hs hm p⟩
theorem wat_and {e b : Expr} {rest : List Expr} {ta tb : FT} {pos : Pos} (ha : CTat X W i a e ta) (hb : CWat X W i a (.BoolOp .And (b :: rest) pos) tb) : CWat X W i a (.BoolOp .And (e :: b :: rest) pos) (tAn ta tb) := by
  intro ρ μ s σ H Q hi hs hm h
  refine ⟨_, pw_and pt_w pw_w, ?_⟩
  refine ha ρ μ s σ H _ hi hs hm (h.bind fun b μ1 x H1 ρ1 t1 r1 h1 => ?_)
  cases r1
  cases b with
  | true => exact iteT (hb ρ1 μ1 s σ H1 Q hi (t1.s hs) t1.mem h1)
  | false => exact iteF (h1.ok (Stp.refl t1.mem) rfl)
theorem wat_or {e b : Expr} {rest : List Expr} {ta tb : FT} {pos : Pos} (ha : CTat X W i a e ta) (hb : CWat X W i a (.BoolOp .Or (b :: rest) pos) tb) : CWat X W i a (.BoolOp .Or (e :: b :: rest) pos) (tOr' ta tb) := by
  intro ρ μ s σ H Q hi hs hm h
  refine ⟨_, pw_or pt_w pw_w, ?_⟩
  refine ha ρ μ s σ H _ hi hs hm (h.bind fun b μ1 x H1 ρ1 t1 r1 h1 => ?_)
  cases r1
  cases b with
  | true => exact iteT (h1.ok (Stp.refl t1.mem) rfl)
  | false => exact iteF (hb ρ1 μ1 s σ H1 Q hi (t1.s hs) t1.mem h1)
/-! ### statements where slot i holds a, and goes on to hold it -/
def PostSat (X : Cx) (W : WX) (i : Nat) (a : Addr) (ρ : List Addr) (H : Hp) (o : Out) (D : Ends) : Prop := match o with
  | .nx s' μ' => ∀ σ' H' ρ', Stp X.K ρ H ρ' H' μ' → RepS X.K H' ρ' s' σ' → σ'[i]? = some (some (.ref a)) → D.nx σ' H'
  | o => PostS X W ρ H o D
theorem PostSat.from {ρ ρ1 : List Addr} {H H1 : Hp} {μ1 : Mem} {o : Out} {D : Ends} (t : Stp X.K ρ H ρ1 H1 μ1) (h : PostSat X W i a ρ H o D) : PostSat X W i a ρ1 H1 o D := by
  cases o with
  | nx s m => exact fun σ' H' ρ' t' r e => h σ' H' ρ' (t.trans t') r e
  | rt u m => exact PostS.from (W := W) (D := D) t (o := .rt u m) h
  | bk s m => exact PostS.from (W := W) (D := D) t (o := .bk s m) h
  | ct s m => exact PostS.from (W := W) (D := D) t (o := .ct s m) h
  | ex c s m => exact PostS.from (W := W) (D := D) t (o := .ex c s m) h
  | bad => exact h
theorem PostSat.bind {α β : Type} {σ : L2.St} {rel : RelT α β} {ρ : List Addr} {H : Hp} {r : Res α} {s : Slots} {k : α → Mem → Out} {D : Ends} {Q1 : β → Hp → Prop} (hs : RepS X.K H ρ s σ)
    (h : PostSat X W i a ρ H (ofR r s k) D) (hk : ∀ b μ1 x H1 ρ1, Stp X.K ρ H ρ1 H1 μ1 → rel X.K H1 ρ1 b x → PostSat X W i a ρ1 H1 (k b μ1) D → Q1 x H1) : Post X W σ rel ρ H r Q1 := by
  cases r with
  | ok b m =>
    intro v H' ρ' t q
    exact hk b m v H' ρ' t q (PostSat.from t h)
  | ex c m =>
    have h' : PostS X W ρ H (.ex c s m) D := h
    exact fun cls H' ρ' t e => h' cls σ H' ρ' t (t.s hs) e
  | bad => exact h
def CSat (X : Cx) (W : WX) (i : Nat) (a : Addr) (st : Stmt) (m : FS) : Prop := ∀ ρ μ s σ H D, σ[i]? = some (some (.ref a)) → RepS X.K H ρ s σ → RepM X.K H ρ μ → PostSat X W i a ρ H (m s μ) D → WS X st D σ H
def CSsat (X : Cx) (W : WX) (i : Nat) (a : Addr) (st : List Stmt) (m : FS) : Prop := ∀ ρ μ s σ H D, σ[i]? = some (some (.ref a)) → RepS X.K H ρ s σ → RepM X.K H ρ μ → PostSat X W i a ρ H (m s μ) D → WSs X st D σ H
theorem ssat_nil : CSsat X W i a [] sNext := fun ρ μ s σ H D hi hs hm h => ⟨_, pss_nil, h σ H ρ (Stp.refl hm) hs hi⟩
theorem ssat_one {st : Stmt} {m : FS} (ha : CSat X W i a st m) : CSsat X W i a [st] m := fun ρ μ s σ H D hi hs hm h => ⟨_, pss_one ps_w, ha ρ μ s σ H D hi hs hm h⟩
theorem ssat_cons {st : Stmt} {rest : List Stmt} {m n : FS} (ha : CSat X W i a st m) (hb : CSsat X W i a rest n) : CSsat X W i a (st :: rest) (sSeq m n) := by
  intro ρ μ s σ H D hi hs hm h
  refine ⟨_, pss_cons ps_w pss_w, ?_⟩
  refine ha ρ μ s σ H _ hi hs hm ?_
  unfold sSeq at h
  cases e : m s μ with
  | nx s1 μ1 =>
    rw [e] at h
    intro σ' H' ρ' t r hi'
    exact hb ρ' μ1 s1 σ' H' D hi' r t.mem (PostSat.from t h)
  | rt u m => rw [e] at h; exact h
  | bk u m => rw [e] at h; exact h
  | ct u m => rw [e] at h; exact h
  | ex c u m => rw [e] at h; exact h
  | bad => rw [e] at h; exact h
theorem sat_set {j : Nat} {x : Str} {e : Expr} {me : FE} {pos pos' : Pos} (hij : j ≠ i) (hN : X.N.Nodup) (hj : X.N[j]? = some x) (hx : Loc X.env.scope x) (he : CEat X W i a e me) (hs0 : swapsWith e (some (.Name x pos')) pos.line X.env = pure false := by rfl)
    (hf : X.fn x = true ∨ X.env.scope.names.lookup x = some .local := by first | exact .inl rfl | exact .inr rfl | assumption) : CSat X W i a (.Assign [.Name x pos'] e pos) (sAsg (.one j) me) := by
  intro ρ μ s σ H D hi hs hm h
  refine ⟨_, ps_set hN hj hx pe_w hs0 hf, ?_⟩
  exact he ρ μ s σ H _ hi hs hm (PostSat.bind hs h fun u μ1 x H1 ρ1 t1 r1 h1 => h1 _ H1 ρ1 (Stp.refl t1.mem) ((t1.s hs).set r1) (by rw [List.getElem?_set_ne hij]; exact hi))
theorem sat_ret {e : Expr} {me : FE} {pos : Pos} (he : CEat X W i a e me) : CSat X W i a (.Return (some e) pos) (sRet me) := by
  intro ρ μ s σ H D hi hs hm h
  refine ⟨_, ps_ret pe_w, ?_⟩
  exact he ρ μ s σ H _ hi hs hm (PostSat.bind hs h fun u μ1 x H1 ρ1 t1 r1 h1 => h1 x H1 ρ1 (Stp.refl t1.mem) r1)
theorem sat_expr {e : Expr} {me : FE} {pos : Pos} (he : CEat X W i a e me) (hs0 : swapsWith e none pos.line X.env = pure false := by rfl) : CSat X W i a (.Expr e pos) (sExpr me) := by
  intro ρ μ s σ H D hi hs hm h
  refine ⟨_, ps_expr pe_w hs0, ?_⟩
  exact he ρ μ s σ H _ hi hs hm (PostSat.bind hs h fun u μ1 x H1 ρ1 t1 r1 h1 => h1 _ H1 ρ1 (Stp.refl t1.mem) (t1.s hs) hi)
theorem sat_if {c : Expr} {p q : List Stmt} {tc : FT} {m n : FS} {pos : Pos} (hc : CTat X W i a c tc) (ha : CSsat X W i a p m) (hb : CSsat X W i a q n) : CSat X W i a (.If c p q pos) (sIf tc m n) := by
  intro ρ μ s σ H D hi hs hm h
  refine ⟨_, ps_if pt_w pss_w pss_w, ?_⟩
  refine hc ρ μ s σ H _ hi hs hm (PostSat.bind hs h fun b μ1 x H1 ρ1 t1 r1 h1 => ?_)
  cases r1
  cases b with
  | true => exact iteT (ha ρ1 μ1 s σ H1 D hi (t1.s hs) t1.mem h1)
  | false => exact iteF (hb ρ1 μ1 s σ H1 D hi (t1.s hs) t1.mem h1)
/-! ### the statement -/
def hideO (i : Nat) (o : Out) : Out := match o with
  | .nx s μ => .nx (s.set i none) μ
  | .bk s μ => .bk (s.set i none) μ
  | .ct s μ => .ct (s.set i none) μ
  | o => o
def sTryG (tab : List (Str × Bool)) (i : Nat) (body : FS) (ms : Str → FS) : FS := fun s μ => match body s μ with
  | .ex c s1 μ1 => match tab.lookup c with
    | some true => if i < s1.length then hideO i (ms c (s1.set i none) μ1) else .bad
    | some false => .ex c s1 μ1
    | none => .bad
  | o => o
theorem cs_tryG_end {a0 : Addr} {oe : Obj} {pn2 : List (Addr × Obj)} {b₀ : Stmt} {suite : List Stmt} {m : FS} {ρ ρ' : List Addr} {H H' : Hp} {s1 : Slots} {m1 : Mem} {σ' : L2.St} {D : Ends} (hce : CSsat (X.suite a0 ((a0, oe) :: pn2)) W i a0 (b₀ :: suite) m) (hlt : i < s1.length) (r : RepS X.K H' ρ' s1 σ') (t : Stp X.K ρ H ρ' H' m1)
    (h : PostS X W ρ H (hideO i (m (s1.set i none) m1)) D) : WSs (X.suite a0 ((a0, oe) :: pn2)) (b₀ :: suite) { nx := fun σ' H' => D.nx (σ'.set i none) H', rt := D.rt, bk := fun σ' H' => D.bk (σ'.set i none) H', ct := fun σ' H' => D.ct (σ'.set i none) H' } (σ'.set i (some (.ref a0))) H' := by
  have r2 := r.hide i (some (.ref a0))
  have hl : i < σ'.length := by rw [← r.len]; exact hlt
  have hz2 : (σ'.set i (some (V.ref a0)))[i]? = some (some (.ref a0)) := by rw [List.getElem?_set_self hl]
  have h' := PostS.from t h
  refine hce ρ' m1 _ _ H' _ hz2 r2 t.mem ?_
  cases em : m (s1.set i none) m1 with
  | nx s2 m2 =>
    rw [em] at h'
    intro σ2 H2 ρ2 t2 rs2 _
    exact h' (σ2.set i none) H2 ρ2 t2 (rs2.hide i none)
  | rt u m2 => rw [em] at h'; exact h'
  | bk s2 m2 =>
    rw [em] at h'
    intro σ2 H2 ρ2 t2 rs2
    exact h' (σ2.set i none) H2 ρ2 t2 (rs2.hide i none)
  | ct s2 m2 =>
    rw [em] at h'
    intro σ2 H2 ρ2 t2 rs2
    exact h' (σ2.set i none) H2 ρ2 t2 (rs2.hide i none)
  | ex c s2 m2 => rw [em] at h'; exact h'
  | bad => rw [em] at h'; exact h'
theorem cs_tryG {x n : Str} {body suite : List Stmt} {b₀ : Stmt} {np pos pos' : Pos} {tab : List (Str × Bool)} {mb : FS} {ms : Str → FS} (G : Good X W k) (hN : X.N.Nodup) (hi : X.N[i]? = some n) (hln : X.env.kindOf n = some .local) (hx : Exn X.K X.mg x) (hg : Gl X x)
    (htab : ∀ q ∈ tab, Exm X.K X.mg q.1 x q.2)
    (hb : ∀ (W' : WX) (pn : List (Addr × Obj)) (xe : Value → Shared → Prop), Good (X.tr pn xe) W' k → CSs (X.tr pn xe) W' body mb)
    (hsu : ∀ (c : Str) (C a : Addr) (oe : Obj) (pn : List (Addr × Obj)), (c, true) ∈ tab → X.mg c = some (.ref C) → Zc (.ref C) none oe → (∃ vs, oe.data = .fields vs) → CSsat (X.suite a ((a, oe) :: pn)) W i a (b₀ :: suite) (ms c))
    (hst : X.stack = X.env :: X.outer := by rfl) (hfr : X.env.frame = some X.env.locals := by rfl) (hdb : (x == ("__debug__" : Str)) = false := by decide) :
    CS X W (.Try body [.ExceptHandler (some (.Name x np)) (some n) (b₀ :: suite) pos'] [] [] pos) (sTryG tab i mb ms) := by
  obtain ⟨C, h1, _⟩ := hx
  intro ρ μ s σ H D hs hm h
  refine ⟨_, ps_try_as (c := .ref C) hst hfr hN hi hln ⟨hg, hdb, .inl h1⟩ (Wout := W) (tb := fun W' D σ H => ∀ pn xe, Takes (X.tr pn xe) W' → PassesOwn (model X.prog X.w) X.A X.env xe → WSs (X.tr pn xe) body D σ H)
    (ts := fun a cls d D σ H => ∀ oe pn, Zc cls d oe → (∃ vs, oe.data = .fields vs) → WSs (X.suite a ((a, oe) :: pn)) (b₀ :: suite) D σ H) G.tk
    (fun W' pn xe tk' po => ⟨fun pins s σ H D I h => pss_w.run pins s σ H D I (h pn xe tk' po)⟩) (fun a oe cls d pn hz hf => ⟨fun pins s σ H D I h => pss_w.run pins s σ H D I (h oe pn hz hf)⟩), ?_⟩
  intro pn xe tk' po
  refine hb _ pn xe (G.tr tk' po) ρ μ s σ H D hs hm ?_
  unfold sTryG at h
  cases eb : mb s μ with
  | nx s1 m1 => rw [eb] at h; exact h
  | rt u m1 => rw [eb] at h; exact h
  | bk s1 m1 => rw [eb] at h; exact h
  | ct s1 m1 => rw [eb] at h; exact h
  | bad => rw [eb] at h; exact h
  | ex c' s1 m1 =>
    rw [eb] at h
    simp only at h
    intro cls σ' H' ρ' t r em
    cases hl : tab.lookup c' with
    | none => rw [hl] at h; exact h.elim
    | some b =>
      rw [hl] at h
      obtain ⟨Cx, Cy, e1, e2, e3⟩ := htab (c', b) (lookup_mem hl)
      simp only at e1 e2 e3
      have em' : X.mg c' = some cls := em
      rw [em'] at e1
      cases e1
      rw [h1] at e2
      cases e2
      refine ⟨b, e3, ?_, ?_⟩
      · rintro rfl a0 ha oe pn2 hz hf
        simp only at h
        split at h
        · rename_i hlt
          exact cs_tryG_end (hsu c' Cx a0 oe pn2 (lookup_mem hl) em' hz hf) hlt r t h
        · exact h.elim
      · rintro rfl
        exact h _ σ' H' ρ' t r em
end
end Dg
/-! Lz: list(zip(a, b)) of two tuples. -/
namespace Lz
open PySem PySem.Spec PyProof.Rows L2 RZ PySem.W
open PySem.Sem (wp)
/-- the zip whose last pair T is still held by somebody -/
abbrev Zo (h : Heap) (z TI TO T : Addr) (f : Bool) : Prop :=
  h.get? z = some { cls := .type "zip", dict := none, data := .fields #[rawInt T, .bool f, .bool false, .ref TI, .ref TO], slots := #[] }
section
variable {prog : Program} {w : World} {A : Around} {E : Value → Shared → Prop} {s : Shared}
variable {z TI TO i1 i2 l1 l2 T : Addr} {f : Bool} {k : Nat} {xs ys : Array Value} {oT : Obj}

theorem free_out {Q : Bool → Shared → Prop} (hz : Zo s.heap z TI TO T f) (hT : s.heap.get? T = some oT)
    (h : ∀ g, Zo g z TI TO T true → Heap.SameBut z s.heap g → Q false { s with heap := g }) : wpAny (model prog w) A (Builtin.SmallTypes.ownedTupleIsFree (.ref z)) Q E s := by
  unfold Builtin.SmallTypes.ownedTupleIsFree
  refine wpAny_bind (wpAny_field hz rfl (x := rawInt T) rfl ?_)
  show wpAny _ _ (loadIfAlive ((T : Int).toNat) >>= _) _ _ _
  rw [Int.toNat_natCast]
  refine wpAny_bind (kdx_alive hT ?_)
  simp only [Option.isNone_some, Bool.false_eq_true, if_false]
  refine wpAny_bind (wpAny_field hz rfl (x := .bool f) rfl ?_)
  cases f with
  | true =>
    rw [if_neg (show ¬ ((Value.bool true != Value.bool true) = true) from Bool.false_ne_true)]
    exact wpAny_pure (h _ hz (Heap.SameBut.refl _ _))
  | false =>
    rw [if_pos (show (Value.bool false != Value.bool true) = true from rfl)]
    exact wpAny_bind (wpAny_setField_rec hz (by simp) fun g e sb => wpAny_pure (h g e sb))

theorem next_out {Q : Option Value → Shared → Prop} {x y : Value} (D : ZipApart z TI TO i1 i2 l1 l2) (hz : Zo s.heap z TI TO T f) (hT : s.heap.get? T = some oT) (hTI : IsPair s.heap TI (.ref i1) (.ref i2))
    (h1 : s.heap.IsTupleIter i1 l1 k) (h2 : s.heap.IsTupleIter i2 l2 k) (p1 : s.heap.IsTuple l1 xs) (p2 : s.heap.IsTuple l2 ys) (hx : xs[k]? = some x) (hy : ys[k]? = some y)
    (hQ : ∀ g, Zo g z TI TO T true → g.IsTupleIter i1 l1 (k + 1) → g.IsTupleIter i2 l2 (k + 1) → IsPair g s.heap.objs.size x y → g.objs.size = s.heap.objs.size + 1 →
      (∀ c o, c ≠ z → c ≠ i1 → c ≠ i2 → s.heap.get? c = some o → g.get? c = some o) → Q (some (.ref s.heap.objs.size)) { s with heap := g }) : wpAny (model prog w) A (pyNext (.ref z)) Q E s := by
  have ty : s.TypeIs (.ref z) "zip" := ⟨_, hz, rfl⟩
  unfold pyNext
  refine wpAny_bind (wpAny_attempt (wpAny_callSpecial?_slot (name := Str.ofString "__next__") ty F.slot_zip_next (wpAny_call_entry F.slot_zip_next ty F.entry_zip_next ?_ (F.args_zip_next_1 _))))
  show wpAny _ _ (field (.ref z) 2 >>= _) _ _ _
  refine wpAny_bind (wpAny_field hz rfl (x := .bool false) rfl ?_)
  show wpAny _ _ (field (.ref z) 3 >>= _) _ _ _
  refine wpAny_bind (wpAny_field hz rfl (x := .ref TI) rfl ?_)
  refine wpAny_bind (wpAny_seqItems hTI rfl ?_)
  show wpAny _ _ (Builtin.SmallTypes.ownedTupleIsFree (.ref z) >>= _) _ _ _
  refine wpAny_bind (free_out hz hT fun g zg sb => ?_)
  simp only [Bool.false_eq_true, if_false]
  refine wpAny_bind ?_
  rw [← Array.forIn_toList]
  simp only [List.forIn_cons, List.forIn_nil]
  refine wpAny_bind (wpAny_bind (wpAny_holding ?_))
  show wpAny _ _ (Builtin.SmallTypes.nextOf (.ref i1) >>= _) _ _ _
  refine wpAny_bind (nextOf_tuple_item (h1.extBut sb.extBut D.i1z) (p1.extBut sb.extBut D.l1z) hx fun g2 j1 s2 => wpAny_pure (wpAny_pure ?_))
  refine wpAny_bind (wpAny_bind (wpAny_holding ?_))
  show wpAny _ _ (Builtin.SmallTypes.nextOf (.ref i2) >>= _) _ _ _
  refine wpAny_bind (nextOf_tuple_item ((h2.extBut sb.extBut D.i2z).extBut s2.extBut D.i12.symm) ((p2.extBut sb.extBut D.l2z).extBut s2.extBut D.l2i1) hy fun g3 j2 s3 => wpAny_pure (wpAny_pure ?_))
  refine wpAny_pure ?_
  show wpAny _ _ (newTuple [x, y] >>= _) _ _ _
  refine wpAny_bind (wpAny_newTuple ?_)
  have e3 : g3.objs.size = s.heap.objs.size := by rw [s3.1, s2.1, sb.1]
  have up : ∀ c o, c ≠ z → c ≠ i1 → c ≠ i2 → s.heap.get? c = some o → g3.get? c = some o := fun c o a b d e => s3.extBut _ _ d (s2.extBut _ _ b (sb.extBut _ _ a e))
  refine wpAny_pure ⟨_, rfl, wpAny_pure ?_⟩
  show Q (some (.ref g3.objs.size)) _
  rw [e3]
  refine hQ _ ?_ ?_ ?_ ?_ ?_ fun c o a b d e => Heap.get?_push_of_some _ (up c o a b d e)
  · exact Heap.get?_push_of_some _ (s3.extBut _ _ D.i2z.symm (s2.extBut _ _ D.i1z.symm zg))
  · exact (j1.extBut s3.extBut D.i12).at fun o e => Heap.get?_push_of_some _ e
  · exact j2.at fun o e => Heap.get?_push_of_some _ e
  · rw [← e3]; exact Heap.get?_push_size _ rfl
  · rw [Heap.size_push, e3]

theorem end_out {Q : Option Value → Shared → Prop} (hh : A.handled = none) (D : ZipApart z TI TO i1 i2 l1 l2) (hz : Zo s.heap z TI TO T f) (hT : s.heap.get? T = some oT) (hTI : IsPair s.heap TI (.ref i1) (.ref i2))
    (h1 : s.heap.IsTupleIter i1 l1 k) (h2 : s.heap.IsTupleIter i2 l2 k) (p1 : s.heap.IsTuple l1 xs) (p2 : s.heap.IsTuple l2 ys) (he : xs[k]? = none ∨ ys[k]? = none)
    (hQ : ∀ g, (∀ c o, c ≠ z → c ≠ i1 → c ≠ i2 → s.heap.get? c = some o → g.get? c = some o) → Q none { s with heap := g }) : wpAny (model prog w) A (pyNext (.ref z)) Q E s := by
  have ty : s.TypeIs (.ref z) "zip" := ⟨_, hz, rfl⟩
  have fin : ∀ (g : Heap) (e : Addr), (∀ c o, c ≠ z → c ≠ i1 → c ≠ i2 → s.heap.get? c = some o → g.get? c = some o) → (∃ o, g.get? e = some o ∧ o.cls = .type "StopIteration") →
      wpAny (model prog w) A (do let b ← isInstance (.ref e) (.type "StopIteration"); if b = true then pure none else throw (.ref e)) Q E { s with heap := g } := fun g e up ⟨o, ho, hc⟩ =>
    wpAny_bind (wpAny_isInstance (T := "StopIteration") (b := true) ⟨o, ho, hc⟩ isSubtype_stop (wpAny_pure (hQ g up)))
  unfold pyNext
  refine wpAny_bind (wpAny_attempt (wpAny_callSpecial?_slot (name := Str.ofString "__next__") ty F.slot_zip_next (wpAny_call_entry F.slot_zip_next ty F.entry_zip_next ?_ (F.args_zip_next_1 _))))
  show wpAny _ _ (field (.ref z) 2 >>= _) _ _ _
  refine wpAny_bind (wpAny_field hz rfl (x := .bool false) rfl ?_)
  show wpAny _ _ (field (.ref z) 3 >>= _) _ _ _
  refine wpAny_bind (wpAny_field hz rfl (x := .ref TI) rfl ?_)
  refine wpAny_bind (wpAny_seqItems hTI rfl ?_)
  show wpAny _ _ (Builtin.SmallTypes.ownedTupleIsFree (.ref z) >>= _) _ _ _
  refine wpAny_bind (free_out hz hT fun g zg sb => ?_)
  simp only [Bool.false_eq_true, if_false]
  refine wpAny_bind ?_
  rw [← Array.forIn_toList]
  simp only [List.forIn_cons, List.forIn_nil]
  refine wpAny_bind (wpAny_bind (wpAny_holding ?_))
  show wpAny _ _ (Builtin.SmallTypes.nextOf (.ref i1) >>= _) _ _ _
  cases hx : xs[k]? with
  | none => exact wpAny_bind (nextOf_tuple_end hh (h1.extBut sb.extBut D.i1z) (p1.extBut sb.extBut D.l1z) hx fun g2 e s2 he => fin g2 e (fun c o a b d q => s2 _ _ b (sb.extBut _ _ a q)) he)
  | some x =>
    have hy : ys[k]? = none := by rcases he with h | h; rw [hx] at h; cases h; exact h
    refine wpAny_bind (nextOf_tuple_item (h1.extBut sb.extBut D.i1z) (p1.extBut sb.extBut D.l1z) hx fun g2 j1 s2 => wpAny_pure (wpAny_pure ?_))
    refine wpAny_bind (wpAny_bind (wpAny_holding ?_))
    show wpAny _ _ (Builtin.SmallTypes.nextOf (.ref i2) >>= _) _ _ _
    exact wpAny_bind (nextOf_tuple_end hh ((h2.extBut sb.extBut D.i2z).extBut s2.extBut D.i12.symm) ((p2.extBut sb.extBut D.l2z).extBut s2.extBut D.l2i1) hy fun g3 e s3 he =>
      fin g3 e (fun c o a b d q => s3 _ _ d (s2.extBut _ _ b (sb.extBut _ _ a q))) he)

/-- the state of the zip before its item k: fresh, or the pair T is held -/
def Zs (h : Heap) (z TI TO i1 i2 l1 l2 S : Addr) (k : Nat) : Prop :=
  (IsZip h z TI TO .none ∨ ∃ T f oT, Zo h z TI TO T f ∧ h.get? T = some oT ∧ T ≠ z ∧ T ≠ TO ∧ T ≠ i1 ∧ T ≠ i2 ∧ T ≠ S) ∧ IsPair h TI (.ref i1) (.ref i2) ∧ (∃ a b, IsPair h TO a b) ∧ h.IsTupleIter i1 l1 k ∧ h.IsTupleIter i2 l2 k
theorem Zs.keep {h g : Heap} {S : Addr} (D : ZipApart z TI TO i1 i2 l1 l2) (x : Zs h z TI TO i1 i2 l1 l2 S k) (hz : z ≠ S) (hI : TI ≠ S) (hO : TO ≠ S) (h1 : i1 ≠ S) (h2 : i2 ≠ S)
    (up : ∀ c o, c ≠ S → h.get? c = some o → g.get? c = some o) : Zs g z TI TO i1 i2 l1 l2 S k := by
  obtain ⟨a, b, ⟨p, q, c⟩, d, e⟩ := x
  refine ⟨?_, up _ _ hI b, ⟨p, q, up _ _ hO c⟩, d.at fun o q => up _ o h1 q, e.at fun o q => up _ o h2 q⟩
  rcases a with a | ⟨T, f, o, a, t, n1, n2, n3, n4, n5⟩
  · exact .inl (up _ _ hz a)
  · exact .inr ⟨T, f, o, up _ _ hz a, up _ _ n5 t, n1, n2, n3, n4, n5⟩
theorem next_any {S : Addr} {Q : Option Value → Shared → Prop} {x y : Value} (D : ZipApart z TI TO i1 i2 l1 l2) (st : Zs s.heap z TI TO i1 i2 l1 l2 S k) (hS : S < s.heap.objs.size)
    (p1 : s.heap.IsTuple l1 xs) (p2 : s.heap.IsTuple l2 ys) (hx : xs[k]? = some x) (hy : ys[k]? = some y)
    (hQ : ∀ g, Zs g z TI TO i1 i2 l1 l2 S (k + 1) → IsPair g s.heap.objs.size x y → g.objs.size = s.heap.objs.size + 1 →
      (∀ c o, c ≠ z → c ≠ TO → c ≠ i1 → c ≠ i2 → s.heap.get? c = some o → g.get? c = some o) → Q (some (.ref s.heap.objs.size)) { s with heap := g }) : wpAny (model prog w) A (pyNext (.ref z)) Q E s := by
  obtain ⟨a, b, ⟨p, q, c⟩, d, e⟩ := st
  have lO : TO < s.heap.objs.size := Heap.lt_size c
  have l1 : i1 < s.heap.objs.size := by obtain ⟨_, e, _⟩ := d; exact Heap.lt_size e
  have l2 : i2 < s.heap.objs.size := by obtain ⟨_, e, _⟩ := e; exact Heap.lt_size e
  rcases a with a | ⟨T, f, o, a, t, n1, n2, n3, n4, n5⟩
  · have lz : z < s.heap.objs.size := Heap.lt_size a
    exact pyNext_zipT_item D a b c d e p1 p2 hx hy fun g a1 a2 a3 a4 a5 a6 a7 => hQ g ⟨.inr ⟨_, false, _, a1, a5, Nat.ne_of_gt lz, Nat.ne_of_gt lO, Nat.ne_of_gt l1, Nat.ne_of_gt l2, Nat.ne_of_gt hS⟩, a7 _ _ D.TIz D.TITO D.TIi1 D.TIi2 b, ⟨_, _, a2⟩, a3, a4⟩ a5 a6 a7
  · exact next_out D a t b d e p1 p2 hx hy fun g a1 a3 a4 a5 a6 a7 => hQ g ⟨.inr ⟨T, true, o, a1, a7 _ _ n1 n3 n4 t, n1, n2, n3, n4, n5⟩, a7 _ _ D.TIz D.TIi1 D.TIi2 b, ⟨_, _, a7 _ _ D.TOz D.TOi1 D.TOi2 c⟩, a3, a4⟩ a5 a6 fun c o q1 q2 q3 q4 => a7 c o q1 q3 q4
theorem end_any {S : Addr} {Q : Option Value → Shared → Prop} (hh : A.handled = none) (D : ZipApart z TI TO i1 i2 l1 l2) (st : Zs s.heap z TI TO i1 i2 l1 l2 S k)
    (p1 : s.heap.IsTuple l1 xs) (p2 : s.heap.IsTuple l2 ys) (he : xs[k]? = none ∨ ys[k]? = none)
    (hQ : ∀ g, (∀ c o, c ≠ z → c ≠ TO → c ≠ i1 → c ≠ i2 → s.heap.get? c = some o → g.get? c = some o) → Q none { s with heap := g }) : wpAny (model prog w) A (pyNext (.ref z)) Q E s := by
  obtain ⟨a, b, ⟨p, q, c⟩, d, e⟩ := st
  rcases a with a | ⟨T, f, o, a, t, n1, n2, n3, n4, n5⟩
  · exact pyNext_zipT_end hh D a b c d e p1 p2 he hQ
  · exact end_out hh D a t b d e p1 p2 he fun g up => hQ g fun c o q1 q2 q3 q4 => up c o q1 q3 q4
end
/-- the addresses as hold the pairs of xs and ys, in order, above B -/
def Ps (xs ys : Array Value) (B : Nat) (h : Heap) (as : List Addr) : Prop :=
  as.Pairwise (· < ·) ∧ (∀ a ∈ as, @LE.le Nat _ B a) ∧ ∀ (j : Nat) (a : Addr), as[j]? = some a → ∃ x y, xs[j]? = some x ∧ ys[j]? = some y ∧ IsPair h a x y
theorem Ps.lt {xs ys : Array Value} {B : Nat} {h : Heap} {as : List Addr} (p : Ps xs ys B h as) {a : Addr} (m : a ∈ as) : a < h.objs.size := by
  obtain ⟨j, e⟩ := List.mem_iff_getElem?.mp m
  obtain ⟨_, _, _, _, q⟩ := p.2.2 j a e
  exact Heap.lt_size q
section
variable {prog : Program} {w : World} {A : Around} {E : Value → Shared → Prop} {s : Shared}
variable {z TI TO i1 i2 l1 l2 S : Addr} {xs ys : Array Value} {R : Result → Shared → Prop}
/-- where the zip and its parts stand: below the list -/
structure Low (z TI TO i1 i2 l1 l2 S : Addr) : Prop where
  z : @LT.lt Nat _ z S
  TI : @LT.lt Nat _ TI S
  TO : @LT.lt Nat _ TO S
  i1 : @LT.lt Nat _ i1 S
  i2 : @LT.lt Nat _ i2 S
  l1 : @LT.lt Nat _ l1 S
  l2 : @LT.lt Nat _ l2 S
def Kp (z TO i1 i2 S : Addr) (h g : Heap) : Prop := ∀ c o, c ≠ S → c ≠ z → c ≠ TO → c ≠ i1 → c ≠ i2 → h.get? c = some o → g.get? c = some o
theorem collect_zip (hh : A.handled = none) (D : ZipApart z TI TO i1 i2 l1 l2) (L : Low z TI TO i1 i2 l1 l2 S) {N B : Nat} (hN : N = min xs.size ys.size) (hl : N ≤ sizeLine) (hB : @LT.lt Nat _ S B) (res : Value) {h0 : Heap}
    (hR : ∀ g tk acc c as, Kp z TO i1 i2 S h0 g → g.get? S = some { cls := .type "list", dict := none, data := .seq acc c, slots := #[] } → as.length = N → Ps xs ys B g as → acc.toList = as.map Value.ref → R (.ok (.ret res)) { s with heap := g, toks := tk }) :
    ∀ (m k : Nat) (h : Heap) (tk c : Nat) (acc : Array Value) (as : List Addr), N - k = m → k ≤ N → Zs h z TI TO i1 i2 l1 l2 S k → h.IsTuple l1 xs → h.IsTuple l2 ys → Kp z TO i1 i2 S h0 h →
      h.get? S = some { cls := .type "list", dict := none, data := .seq acc c, slots := #[] } → acc.toList = as.map Value.ref → as.length = k → Ps xs ys B h as → B ≤ h.objs.size →
      codeAny (model prog w) A (.builtin "list.extend.loop" ⟨[.ref S, .ref z, res], []⟩) R { s with heap := h, toks := tk } := by
  intro m
  induction m with
  | zero =>
    intro k h tk c acc as hm hk st p1 p2 kp hS ha hal P hBs
    have e : k = N := by omega
    refine codeAny_builtin PySem.F.entry_extend_loop ?_
    rw [Around.under_plainId PySem.F.plain_extend_loop _]
    show wpAny _ A.in1 (pyNext (.ref z) >>= _) _ _ _
    refine wpAny_bind (end_any (s := { s with heap := h, toks := tk }) (A := A.in1) hh D st p1 p2 ?_ fun g up => ?_)
    · rcases Nat.le_total xs.size ys.size with q | q
      · exact .inl (Array.getElem?_eq_none (by omega))
      · exact .inr (Array.getElem?_eq_none (by omega))
    · have big : ∀ {a : Addr}, a ∈ as → a ≠ z ∧ a ≠ TO ∧ a ≠ i1 ∧ a ≠ i2 := fun m => by
        have h1 := P.2.1 _ m
        have := L.z; have := L.TO; have := L.i1; have := L.i2
        refine ⟨?_, ?_, ?_, ?_⟩ <;> (intro q; rw [q] at h1; omega)
      refine wpAny_pure (hR g tk acc c as (fun c o a1 a2 a3 a4 a5 q => up c o a2 a3 a4 a5 (kp c o a1 a2 a3 a4 a5 q)) (up S _ (Nat.ne_of_gt L.z) (Nat.ne_of_gt L.TO) (Nat.ne_of_gt L.i1) (Nat.ne_of_gt L.i2) hS) (hal.trans e) ⟨P.1, P.2.1, fun j a q => ?_⟩ ha)
      obtain ⟨x, y, b1, b2, b3⟩ := P.2.2 j a q
      obtain ⟨n1, n2, n3, n4⟩ := big (List.mem_of_getElem? q)
      exact ⟨x, y, b1, b2, up _ _ n1 n2 n3 n4 b3⟩
  | succ m ih =>
    intro k h tk c acc as hm hk st p1 p2 kp hS ha hal P hBs
    have hx : xs[k]? = some (xs[k]'(by omega)) := Array.getElem?_eq_getElem _
    have hy : ys[k]? = some (ys[k]'(by omega)) := Array.getElem?_eq_getElem _
    have sz : acc.size = k := by rw [← Array.length_toList, ha, List.length_map, hal]
    have hSl : S < h.objs.size := Heap.lt_size hS
    refine codeAny_builtin PySem.F.entry_extend_loop ?_
    rw [Around.under_plainId PySem.F.plain_extend_loop _]
    show wpAny _ A.in1 (pyNext (.ref z) >>= _) _ _ _
    refine wpAny_bind (next_any (s := { s with heap := h, toks := tk }) D st hSl p1 p2 hx hy fun g st' np gs up => ?_)
    dsimp only at np gs up ⊢
    have gS := up S _ (Nat.ne_of_gt L.z) (Nat.ne_of_gt L.TO) (Nat.ne_of_gt L.i1) (Nat.ne_of_gt L.i2) hS
    have ot : ∀ b o, b ≠ S → g.get? b = some o → (g.update S (Obj.mapSeq (·.push (Value.ref h.objs.size)))).get? b = some o := fun b o hb e => (Heap.get?_update_other _ _ (Ne.symm hb)).trans e
    have low : ∀ {a : Addr}, a < S → a ≠ S := fun q => Nat.ne_of_lt q
    show wpAny _ A.in1 (updateSeq S (·.push (Value.ref h.objs.size)) >>= _) _ _ _
    refine wpAny_bind ?_
    refine wpAny_updateSeq gS rfl (wpAny_pure ⟨plainId_quiet PySem.F.plain_extend_loop _, ih (k + 1) _ tk _ (acc.push (Value.ref h.objs.size)) (as ++ [h.objs.size]) (by omega) (by omega)
      (st'.keep D (low L.z) (low L.TI) (low L.TO) (low L.i1) (low L.i2) ot)
      ((p1.at fun o e => up l1 o D.l1z D.l1TO D.l1i1 D.l1i2 e).at fun o e => ot l1 o (low L.l1) e) ((p2.at fun o e => up l2 o D.l2z D.l2TO D.l2i1 D.l2i2 e).at fun o e => ot l2 o (low L.l2) e)
      (fun c o a1 a2 a3 a4 a5 q => ot c o a1 (up c o a2 a3 a4 a5 (kp c o a1 a2 a3 a4 a5 q))) (Heap.get?_update_self _ gS rfl) (by rw [Array.toList_push, ha, List.map_append]; rfl) (by rw [List.length_append, hal]; rfl) ⟨?_, ?_, ?_⟩ ?_⟩)
      (by rw [sz]; omega) (by show (acc.push (Value.ref h.objs.size)).size ≤ sizeLine + 1; rw [Array.size_push, sz]; omega)
    · refine List.pairwise_append.mpr ⟨P.1, List.pairwise_singleton _ _, fun a q b hb => ?_⟩
      rw [List.mem_singleton.mp hb]
      exact P.lt q
    · intro a q
      rcases List.mem_append.mp q with q | q
      · exact P.2.1 a q
      · rw [List.mem_singleton.mp q]; exact hBs
    · intro j b q
      rcases Nat.lt_trichotomy j as.length with o | o | o
      · rw [List.getElem?_append_left o] at q
        obtain ⟨x, y, b1, b2, b3⟩ := P.2.2 j b q
        have h1 := P.2.1 b (List.mem_of_getElem? q)
        have := L.z; have := L.TO; have := L.i1; have := L.i2
        exact ⟨x, y, b1, b2, ot b _ (by intro e; rw [e] at h1; omega) (up b _ (by intro e; rw [e] at h1; omega) (by intro e; rw [e] at h1; omega) (by intro e; rw [e] at h1; omega) (by intro e; rw [e] at h1; omega) b3)⟩
      · subst o
        have e : h.objs.size = b := by simpa using q
        subst e
        exact ⟨_, _, hal ▸ hx, hal ▸ hy, ot _ _ (Nat.ne_of_gt hSl) np⟩
      · rw [List.getElem?_eq_none (by rw [List.length_append, List.length_singleton]; omega)] at q; cases q
    · have e : (g.update S (Obj.mapSeq (·.push (Value.ref h.objs.size)))).get? h.objs.size = _ := ot _ _ (Nat.ne_of_gt hSl) np
      exact Nat.le_trans hBs (Nat.le_of_lt (Heap.lt_size e))
end
theorem zip_len0 : typeLookup (.type "zip") "__len__" = pure none := by rw [typeLookup_type, builtinLookup_eq_fast]; kernel_rfl
theorem zip_hint0 : typeLookup (.type "zip") "__length_hint__" = pure none := by rw [typeLookup_type, builtinLookup_eq_fast]; kernel_rfl
section
variable {prog : Program} {w : World} {A : Around} {E : Value → Shared → Prop} {s : Shared}
variable {z TI TO i1 i2 l1 l2 S : Addr} {xs ys : Array Value} {R : Result → Shared → Prop}
theorem fill_zip (hh : A.handled = none) (D : ZipApart z TI TO i1 i2 l1 l2) (L : Low z TI TO i1 i2 l1 l2 S) (hl : min xs.size ys.size ≤ sizeLine) (hz : IsZip s.heap z TI TO .none) (hTI : IsPair s.heap TI (.ref i1) (.ref i2))
    (hTO : IsPair s.heap TO .none .none) (h1 : s.heap.IsTupleIter i1 l1 0) (h2 : s.heap.IsTupleIter i2 l2 0) (p1 : s.heap.IsTuple l1 xs) (p2 : s.heap.IsTuple l2 ys) (hS : s.heap.get? S = some { cls := .type "list", data := .seq #[] })
    (hR : ∀ g tk acc c as, Kp z TO i1 i2 S s.heap g → g.get? S = some { cls := .type "list", dict := none, data := .seq acc c, slots := #[] } → as.length = min xs.size ys.size → Ps xs ys s.heap.objs.size g as → acc.toList = as.map Value.ref →
      R (.ok (.ret .none)) { s with heap := g, toks := tk }) :
    wpAny (model prog w) A.in1 (Builtin.«list.__init__» ⟨[.ref S, .ref z], []⟩)
      (fun fin s' => match fin with | .done f => R (.ok f) s' | .again c' => c'.quiet = true ∧ codeAny (model prog w) A c' R s') (fun e s' => R (.error e) s') s := by
  have hSl : S < s.heap.objs.size := Heap.lt_size hS
  show wpAny _ A.in1 (do let old ← Builtin.List.listItems (.ref S); Builtin.List.listUpdate (.ref S) (fun _ => #[]); letGo old.toList.reverse; Builtin.List.listExtendWith (.ref S) (.ref z) .none) _ _ s
  refine wpAny_bind ?_
  unfold Builtin.List.listItems
  refine wpAny_bind (wpAny_seqItems hS rfl (wpAny_pure ?_))
  show wpAny _ A.in1 (updateSeq S (fun _ => #[]) >>= fun _ => letGo (#[] : Array Value).toList.reverse >>= fun _ => Builtin.List.listExtendWith (.ref S) (.ref z) .none) _ _ s
  refine wpAny_bind (wpAny_updateSeq hS rfl ?_)
  have e1 := Heap.get?_update_self (Obj.mapSeq (fun _ => (#[] : Array Value))) hS rfl
  have u1 : ∀ b o, b ≠ S → s.heap.get? b = some o → (s.heap.update S (Obj.mapSeq (fun _ => (#[] : Array Value)))).get? b = some o := fun b o hb e => (Heap.get?_update_other _ _ (Ne.symm hb)).trans e
  have z1 : (s.heap.update S (Obj.mapSeq (fun _ => (#[] : Array Value)))).objs.size = s.heap.objs.size := (Heap.SameBut.update ..).1
  refine wpAny_bind (wpAny_letGo ?_)
  generalize hg1 : s.heap.update S (Obj.mapSeq (fun _ => (#[] : Array Value))) = g1 at e1 u1 z1 ⊢
  clear hg1
  have low : ∀ {a : Addr}, a < S → a ≠ S := fun q => Nat.ne_of_lt q
  have zz : IsZip g1 z TI TO .none := u1 _ _ (low L.z) hz
  have ty : Shared.TypeIs { s with heap := g1 } (.ref z) "zip" := ⟨_, zz, rfl⟩
  unfold Builtin.List.listExtendWith
  refine wpAny_bind (wpAny_typeOf ty ?_)
  have q1 : Builtin.List.listSameRef (.ref S) (.ref z) = false := by simp [Builtin.List.listSameRef, (low L.z).symm]
  have q2 : (Value.type "zip" == Value.type "list") = false := by decide
  have q3 : (Value.type "zip" == Value.type "tuple") = false := by decide
  simp only [q1, q2, q3, Bool.or_false, Bool.false_eq_true, if_false]
  refine wpAny_bind (wpAny_pyIter_zip zz ?_)
  refine wpAny_bind (wpAny_holding ?_)
  unfold Builtin.List.listLengthHint
  refine wpAny_bind (wpAny_specialOf ty zip_len0 ?_)
  show wpAny _ A.in1 (specialOf (Value.ref z) (Str.ofString "__length_hint__") >>= _) _ _ _
  refine wpAny_bind (wpAny_specialOf ty zip_hint0 ?_)
  refine wpAny_pure ?_
  show wpAny _ A.in1 (rule "list.extend.makes-room" >>= fun _ => Builtin.List.listTouch (.ref S) >>= fun _ => again (.builtin "list.extend.loop" ⟨[.ref S, .ref z, .none], []⟩)) _ _ _
  refine wpAny_bind (wpAny_rule ?_)
  refine wpAny_bind ?_
  show wpAny _ A.in1 (updateSeq S (·.push .none) >>= fun _ => updateSeq S (·.pop)) _ _ _
  refine wpAny_bind (wpAny_updateSeq e1 rfl ?_)
  have e2 := Heap.get?_update_self (Obj.mapSeq (·.push Value.none)) e1 rfl
  refine wpAny_updateSeq (hz := by seq_fits) e2 rfl ?_
  have e3 := Heap.get?_update_self (Obj.mapSeq (·.pop)) e2 rfl
  have u3 : ∀ b o, b ≠ S → s.heap.get? b = some o → ((g1.update S (Obj.mapSeq (·.push Value.none))).update S (Obj.mapSeq (·.pop))).get? b = some o :=
    fun b o hb e => (Heap.get?_update_other _ _ (Ne.symm hb)).trans ((Heap.get?_update_other _ _ (Ne.symm hb)).trans (u1 b o hb e))
  have z3 : ((g1.update S (Obj.mapSeq (·.push Value.none))).update S (Obj.mapSeq (·.pop))).objs.size = s.heap.objs.size := ((Heap.SameBut.update ..).1.trans (Heap.SameBut.update ..).1).trans z1
  refine wpAny_pure ⟨plainId_quiet PySem.F.plain_extend_loop _, collect_zip (s := { s with heap := g1 }) hh D L rfl hl hSl .none (h0 := s.heap) (fun g tk acc c as => hR g tk acc c as) _ 0 _ _ _ _ [] rfl (Nat.zero_le _)
    ⟨.inl (u3 _ _ (low L.z) hz), u3 _ _ (low L.TI) hTI, ⟨_, _, u3 _ _ (low L.TO) hTO⟩, h1.at fun o e => u3 _ o (low L.i1) e, h2.at fun o e => u3 _ o (low L.i2) e⟩
    (p1.at fun o e => u3 _ o (low L.l1) e) (p2.at fun o e => u3 _ o (low L.l2) e) (fun c o a1 _ _ _ _ q => u3 c o a1 q) e3 rfl rfl ⟨List.Pairwise.nil, (fun _ h => nomatch h), (fun j a h => by simp at h)⟩ (Nat.le_of_eq z3.symm)⟩

theorem list_zip {Q : Value → Shared → Prop} (hh : A.handled = none) (p1 : s.heap.IsTuple l1 xs) (p2 : s.heap.IsTuple l2 ys) (hl : min xs.size ys.size ≤ sizeLine)
    (hQ : ∀ g tk acc c as S, s.heap.objs.size ≤ S → (∀ c o, s.heap.get? c = some o → g.get? c = some o) → g.get? S = some { cls := .type "list", dict := none, data := .seq acc c, slots := #[] } → as.length = min xs.size ys.size → Ps xs ys (S + 1) g as →
      acc.toList = as.map Value.ref → Q (.ref S) { s with heap := g, toks := tk }) :
    wpAny (model prog w) A (call (.type "zip") [.ref l1, .ref l2]) (fun v s1 => wpAny (model prog w) A (call (.type "list") [v]) Q E s1) E s := by
  obtain ⟨o1, b1, _⟩ := id p1
  obtain ⟨o2, b2, _⟩ := id p2
  have lt1 := Heap.lt_size b1
  have lt2 := Heap.lt_size b2
  refine call_zipT p1 p2 fun h hz hTI hTO h1 h2 hs up => ?_
  have D := ktu_apart s.heap.objs.size l1 l2 lt1 lt2
  have sS : h.objs.size = s.heap.objs.size + 5 := hs
  have c0 : @LT.lt Nat _ l1 s.heap.objs.size := lt1
  have c1 : @LT.lt Nat _ l2 s.heap.objs.size := lt2
  refine callType_codes (Q₁ := fun obj s₁ => obj = .ref h.objs.size ∧ s₁ = { s with heap := h.push { cls := .type "list", data := .seq #[] } }) PySem.F.called_list (PySem.F.typeCall_list_1 _) PySem.F.entry_list_init
    (code_list_new _ ⟨rfl, rfl⟩) fun obj s₁ e₁ => ?_
  obtain ⟨rfl, rfl⟩ := e₁
  have hS : (h.push { cls := .type "list", data := .seq #[] }).get? h.objs.size = some { cls := .type "list", data := .seq #[] } := Heap.get?_push_size _ rfl
  have pu : ∀ {c : Addr} {o : Obj}, h.get? c = some o → (h.push { cls := .type "list", data := .seq #[] }).get? c = some o := fun e => Heap.get?_push_of_some _ e
  refine ⟨⟨_, hS, rfl⟩, PySem.F.args_list_init_2 _ _, fill_zip (xs := xs) (ys := ys) (A := A.in1) hh D ⟨?_, ?_, ?_, ?_, ?_, ?_, ?_⟩ hl (pu hz) (pu hTI) (pu hTO) (h1.at fun o e => pu e) (h2.at fun o e => pu e)
    ((p1.at fun o e => up _ _ e).at fun o e => pu e) ((p2.at fun o e => up _ _ e).at fun o e => pu e) hS (fun g tk acc c as kp gS ln P ha => ⟨rfl, hQ g tk acc c as _ ?_ ?_ gS ln ?_ ha⟩)⟩
  any_goals (rw [sS]; first | exact Nat.lt_add_of_pos_right (by decide) | (show @LT.lt Nat _ _ _; omega))
  · rw [sS]; exact Nat.le_add_right _ _
  · intro c o e
    have lc : @LT.lt Nat _ c s.heap.objs.size := Heap.lt_size e
    refine kp c o ?_ ?_ ?_ ?_ ?_ (pu (up c o e)) <;> (intro q; rw [q] at lc; first | (rw [sS] at lc; omega) | omega)
  · have e : (h.push { cls := .type "list", data := .seq #[] }).objs.size = h.objs.size + 1 := Heap.size_push ..
    rw [← e]
    exact P
end
end Lz

namespace Dg
open PySem PySem.Spec PyProof.Rows L2 RZ PySem.W
section
variable {X : Cx} {W : WX} {k : Nat}
theorem getR {xs : List V} {us : List Value} (r : Vals xs us) {j : Nat} {u : Value} (e : us[j]? = some u) : ∃ x, xs[j]? = some x ∧ RelV x u := by
  cases h : xs[j]? with
  | none => rw [r.none_of h] at e; cases e
  | some x =>
    obtain ⟨u', e', q⟩ := r.get h
    rw [e] at e'; cases e'
    exact ⟨x, rfl, q⟩
/-- list(zip(a, b)) of tuples: the pairs are laid, then the list -/
def tLz (K : PySem.W.Frag) (ta : TA) : TE := fun σ H Q => ta σ H fun vs H1 => ∃ a b xs ys, vs = [.ref a, .ref b] ∧ SqT K H1 a xs ∧ SqT K H1 b ys ∧ ∀ (S : Addr) (as : List Addr) (H2 : Hp), H1 S = none → H2 S = some (.lst (as.map V.ref)) → (∀ b o, H1 b = some o → H2 b = some o) →
  as.length = min xs.length ys.length → (∀ (j : Nat) a, as[j]? = some a → ∃ x y, xs[j]? = some x ∧ ys[j]? = some y ∧ H2 a = some (.tup [x, y])) → Q (.ref S) H2
theorem pe_lz {e e2 : Expr} {ta : TA} {p q pos pos2 : Pos} (hc : X.calm = true) (hg : Gl X "list") (hm : X.mg "list" = none) (hgz : Gl X "zip") (hmz : X.mg "zip" = none) (ha : PA X [e, e2] ta)
    (hs : starEach [e, e2] X.env = (false, eval e X.env) :: starEach [e2] X.env := by rfl) (hpl : (backTo pos2 (starEach [e2] X.env)).any (·.1) = false := by rfl) :
    PE X (.Call (.Name "list" p) [.Call (.Name "zip" q) [e, e2] [] pos2] [] pos) (tLz X.K ta) := by
  refine ⟨fun pins s σ H Q I h => ?_⟩
  refine Call_ (ld_blt I hg hm boot_list (PyProof.Rows.callWith_type1 (args_cons ?_ rfl) rfl))
  refine Call_ (ld_blt I hgz hmz PyProof.Rows.boot_zip (PyProof.Rows.callWith_type1 (thn (ha.run pos2 pins s σ H _ I h) fun us s1 ⟨vs, H1, I1, r1, q1⟩ => ?_) hs hpl))
  obtain ⟨a, b, xs, ys, ex, ha1, hb1, q1⟩ := q1
  subst ex
  cases r1 with
  | cons r rr =>
    cases rr with
    | cons r' rr =>
      cases rr
      cases r
      cases r'
      obtain ⟨is, va, p1, z1⟩ := I1.tuple ha1
      obtain ⟨js, vb, p2, z2⟩ := I1.tuple hb1
      have l1 := va.length
      have l2 := vb.length
      have ml : min is.toArray.size js.toArray.size = min xs.length ys.length := by simp only [List.size_toArray, l1, l2]
      refine wpAny_mono (Lz.list_zip (Q := EP X pins σ Q) (E := X.xe) (I1.ok.hd hc) (show s1.heap.IsTuple a is.toArray from p1) (show s1.heap.IsTuple b js.toArray from p2) (by rw [ml]; omega) fun g tk acc c as S hS up gS ln P hacc => ?_) (fun v s2 h2 => args_nil h2) fun _ _ h2 => h2
      have nd : as.Nodup := P.1.imp fun q => Nat.ne_of_lt q
      have big : ∀ x ∈ as, s1.heap.objs.size ≤ x := fun x hx => Nat.le_trans hS (Nat.le_of_succ_le (P.2.1 x hx))
      have S1 : H1 S = none := I1.hok.fresh hS
      have nS : S ∉ as := fun q => Nat.lt_irrefl S (P.2.1 S q)
      have I2 : Inv X pins σ (upd H1 S (.lst (as.map V.ref))) { s1 with heap := g, toks := tk } :=
        I1.laid up hS (show ObjOk X.prog X.w _ _ _ (.lst (as.map V.ref)) from ⟨by rw [List.length_map, ln, ml]; omega, acc.toList, c, by rw [hacc]; exact vals_refs as, by rw [Array.toArray_toList]; exact gS⟩)
      obtain ⟨H2, I3, ext, tk2⟩   := L2.DX.takeT (P := fun x vs => ∀ (j : Nat), as[j]? = some x → ∃ (u w : V), xs[j]? = some u ∧ ys[j]? = some w ∧ vs = [u, w]) I1 as (upd H1 S (.lst (as.map V.ref))) I2 nd fun x hx => by
        obtain ⟨j, hj⟩ := List.mem_iff_getElem?.mp hx
        obtain ⟨u, w, e1, e2, pr⟩ := P.2.2 j x hj
        have e1' : is[j]? = some u := by simpa using e1
        have e2' : js[j]? = some w := by simpa using e2
        obtain ⟨m, em, rm⟩ := getR va e1'
        obtain ⟨n, en, rn⟩ := getR vb e2'
        refine ⟨big x hx, ?_, [m, n], fun j' hj' => ?_, fun H2 => ⟨by show 2 ≤ sizeLine; decide, [u, w], .cons rm (.cons rn .nil), ⟨_, pr, rfl, _, rfl⟩⟩⟩
        · rw [upd_ne (fun q => nS (by rw [← q]; exact hx))]
          exact I1.hok.fresh (big x hx)
        · have : j' = j := (List.getElem?_inj (List.getElem?_eq_some_iff.mp hj').1 nd).mp (hj'.trans hj.symm)
          subst this
          exact ⟨m, n, em, en, rfl⟩
      refine ⟨.ref S, H2, I3, rfl, q1 S as H2 S1 (ext _ _ upd_same) (fun b o e => ext _ _ (by rw [upd_ne (ne_of_none e S1)]; exact e)) (by rw [ln, ml]) fun j x hj => ?_⟩
      obtain ⟨vs, hP, eH⟩ := tk2 x (List.mem_of_getElem? hj)
      obtain ⟨u, w, e1, e2, rfl⟩ := hP j hj
      exact ⟨u, w, e1, e2, eH⟩
/-- the mirror: a new list of pairs -/
def fLz (ma : FA) : FE := fun s μ => (ma s μ).bind fun us μ1 => match us with
  | [.tup xs, .tup ys] => .ok (.ref μ1.length) (μ1 ++ [.lst (List.zipWith (fun x y => .tup [x, y]) xs ys)])
  | _ => .bad
theorem zipPairs {K : PySem.W.Frag} {H : Hp} {ρ : List Addr} : ∀ {us ws : List U} {xs ys : List V} {as : List Addr}, RepVs K H ρ us xs → RepVs K H ρ ws ys → as.length = min xs.length ys.length →
    (∀ (j : Nat) a, as[j]? = some a → ∃ x y, xs[j]? = some x ∧ ys[j]? = some y ∧ H a = some (.tup [x, y])) → RepVs K H ρ (List.zipWith (fun x y => .tup [x, y]) us ws) (as.map V.ref)
  | [], _, _, _, as, .nil, _, hl, _ => by
    have : as = [] := List.length_eq_zero_iff.mp (by simpa using hl)
    subst this; exact .nil
  | _ :: _, [], _, _, as, .cons _ _, .nil, hl, _ => by
    have : as = [] := List.length_eq_zero_iff.mp (by simpa using hl)
    subst this; exact .nil
  | u :: us, w :: ws, _, _, [], .cons _ _, .cons _ _, hl, _ => by simp at hl
  | u :: us, w :: ws, _, _, a :: as, .cons hu ru, .cons hw rw', hl, hp => by
    obtain ⟨x, y, e1, e2, e3⟩ := hp 0 a rfl
    cases e1; cases e2
    exact .cons (.tup (.inl (.inl e3)) (.cons hu (.cons hw .nil))) (zipPairs ru rw' (by simp at hl; omega) fun j a h => hp (j + 1) a h)
theorem ce_lz {e e2 : Expr} {ma : FA} {p q pos pos2 : Pos} (G : Good X W k) (hg : Gl X "list") (hm : X.mg "list" = none) (hgz : Gl X "zip") (hmz : X.mg "zip" = none) (ha : CA X W [e, e2] ma)
    (hp : ∀ {t : TA}, PA X [e, e2] t → PE X (.Call (.Name "list" p) [.Call (.Name "zip" q) [e, e2] [] pos2] [] pos) (tLz X.K t)) : CE X W (.Call (.Name "list" p) [.Call (.Name "zip" q) [e, e2] [] pos2] [] pos) (fLz ma) := by
  intro ρ μ s σ H Q hs hm' h
  refine ⟨_, hp pa_w, ?_⟩
  refine ha ρ μ s σ H _ hs hm' (h.bind fun us μ1 vs H1 ρ1 t1 r1 h1 => ?_)
  split at h1
  · cases r1 with
    | cons ra r1 =>
      cases r1 with
      | cons rb r1 =>
        cases r1
        cases ra with
        | tup ta rxs =>
          cases rb with
          | tup tb rys =>
            refine ⟨_, _, _, _, rfl, ta, tb, fun S as H2 hS eS ext ln hp => ?_⟩
            -- the heap but for the list
            let H0 : Hp := fun b => if b = S then none else H2 b
            have e0 : upd H0 S (.lst (as.map V.ref)) = H2 := by
              funext b
              unfold upd
              by_cases hb : b = S
              · rw [if_pos hb, hb, eS]
              · rw [if_neg hb]; show (if b = S then none else H2 b) = H2 b; rw [if_neg hb]
            have x0 : ∀ b o, H1 b = some o → H0 b = some o := fun b o e => by
              show (if b = S then none else H2 b) = _
              rw [if_neg (fun q => by rw [q, hS] at e; cases e)]
              exact ext b o e
            have nS : H0 S = none := by show (if S = S then none else H2 S) = none; rw [if_pos rfl]
            have tx : TX H1 H0 := ⟨fun a xs h => by
              rcases h with h | ⟨o, h⟩
              · exact .inl (x0 _ _ h)
              · exact .inr ⟨o, x0 _ _ h⟩, fun a o u h => x0 _ _ h⟩
            have m0 : RepM X.K H0 ρ1 μ1 := t1.mem.keep tx fun a ha => by
              cases hq : H1 a with
              | none => exact absurd hq (t1.mem.here ha)
              | some o => rw [x0 _ _ hq]
            have st : Stp X.K ρ1 H1 ρ1 H0 μ1 := ⟨Ext.refl _, tx, m0⟩
            have rv : RepVs X.K (upd H0 S (.lst (as.map V.ref))) (ρ1 ++ [S]) _ (as.map V.ref) := zipPairs (((st.vs rxs).mono (TX.new nS) (Ext.snoc ρ1 S))) ((st.vs rys).mono (TX.new nS) (Ext.snoc ρ1 S)) ln (by rw [e0]; exact hp)
            have st2 : Stp X.K ρ1 H0 (ρ1 ++ [S]) (upd H0 S (.lst (as.map V.ref))) (μ1 ++ [.lst _]) := Stp.new m0 nS ⟨_, upd_same, rv⟩
            rw [← e0]
            exact h1.ok (st.trans st2) (refN t1.mem)
  · exact h1.elim
end
end Dg
/-! Dk: dicts whose keys are tuples of ints: comprehension, in, d[t] = v, d[t]. -/
namespace Dg
open PySem PySem.Spec PyProof.Rows L2

abbrev Ti := List (List Int × Addr × V)
def valI (xs : Ti) (k : List Int) : Option V := (xs.find? fun x => decide (x.1 = k)).map (·.2.2)
def putI (xs : Ti) (k : List Int) (b : Addr) (v : V) : Ti :=
  if (xs.any fun x => decide (x.1 = k)) = true then xs.map (fun x => if x.1 = k then (x.1, x.2.1, v) else x) else xs ++ [(k, b, v)]
abbrev PR : Ti → List (List Int × Addr × Value) → Prop := Paired fun p q => p.1 = q.1 ∧ p.2.1 = q.2.1 ∧ RelV p.2.2 q.2.2
theorem PR.val {xs : Ti} {ys : List (List Int × Addr × Value)} (r : PR xs ys) (k : List Int) : RelO (valI xs k) ((atKey ys k).map (·.2)) := by
  induction r with
  | nil => exact True.intro
  | @cons p q ps qs h t ih =>
    obtain ⟨h1, _, h2⟩ := h
    by_cases e : p.1 = k
    · have e' : q.1 = k := h1.symm.trans e
      have c1 : valI (p :: ps) k = some p.2.2 := by simp [valI, e]
      have c2 : atKey (q :: qs) k = some q.2 := by simp [atKey, e']
      rw [c1, c2]; exact h2
    · have e' : ¬ q.1 = k := fun z => e (h1.trans z)
      have c1 : valI (p :: ps) k = valI ps k := by simp [valI, e]
      have c2 : atKey (q :: qs) k = atKey qs k := by simp [atKey, e']
      rw [c1, c2]; exact ih
theorem PR.any {xs : Ti} {ys : List (List Int × Addr × Value)} (r : PR xs ys) (k : List Int) : (xs.any fun x => decide (x.1 = k)) = (atKey ys k).isSome := by
  induction r with
  | nil => rfl
  | @cons p q ps qs h t ih =>
    by_cases e : p.1 = k
    · have e' : q.1 = k := h.1.symm.trans e
      simp [atKey, e, e']
    · have e' : ¬ q.1 = k := fun z => e (h.1.trans z)
      have c2 : atKey (q :: qs) k = atKey qs k := by simp [atKey, e']
      rw [c2, ← ih]; simp [e]
theorem PR.put {xs : Ti} {ys : List (List Int × Addr × Value)} (r : PR xs ys) (k : List Int) (b : Addr) {v : V} {u : Value} (rv : RelV v u) : PR (putI xs k b v) (storedH ys k b u) := by
  unfold putI storedH
  rw [r.any k]
  by_cases q : (atKey ys k).isSome = true
  · rw [if_pos q, if_pos q]
    clear q
    induction r with
    | nil => exact .nil
    | @cons p q ps qs h t ih =>
      rw [List.map_cons, List.map_cons]
      refine .cons ?_ ih
      unfold putAt
      by_cases e : p.1 = k
      · rw [if_pos e, if_pos (h.1.symm.trans e)]; exact ⟨h.1, h.2.1, rv⟩
      · rw [if_neg e, if_neg (fun z => e (h.1.trans z))]; exact h
  · rw [if_neg q, if_neg q]; exact Paired.snoc r ⟨rfl, rfl, rv⟩
theorem putI_mem {xs : Ti} {k : List Int} {b : Addr} {v : V} {p : List Int × Addr × V} (h : p ∈ putI xs k b v) : (p.1 = k ∧ p.2.1 = b) ∨ ∃ q ∈ xs, q.1 = p.1 ∧ q.2.1 = p.2.1 := by
  unfold putI at h
  split at h
  · obtain ⟨x, hx, e⟩ := List.mem_map.mp h
    refine .inr ⟨x, hx, ?_⟩
    subst e
    split <;> exact ⟨rfl, rfl⟩
  · rcases List.mem_append.mp h with h | h
    · exact .inr ⟨p, h, rfl, rfl⟩
    · rw [List.mem_singleton.mp h]; exact .inl ⟨rfl, rfl⟩
theorem putI_len (xs : Ti) (k : List Int) (b : Addr) (v : V) : (putI xs k b v).length ≤ xs.length + 1 := by
  unfold putI
  split <;> simp
theorem PR.len {xs : Ti} {ys : List (List Int × Addr × Value)} (r : PR xs ys) : xs.length = ys.length := Paired.length r
theorem PR.keys {xs : Ti} {ys : List (List Int × Addr × Value)} (r : PR xs ys) : xs.map (·.1) = ys.map (·.1) := by
  induction r with
  | nil => rfl
  | cons h t ih => rw [List.map_cons, List.map_cons, h.1, ih]

section
variable {X : Cx} {pins : List (Addr × Obj)} {σ : L2.St} {H : Hp} {s : Shared} {a b : Addr} {A : Around} {E : Value → Shared → Prop} {xs : Ti} {ks : List Int}
def TiIn (K : PySem.W.Frag) (H : Hp) (a : Addr) (xs : Ti) : Prop := H a = some (TiD a xs) ∧ ∀ p ∈ xs, SqT K H p.2.1 (p.1.map V.int)
theorem ints_items {P : Program} {w : World} : ∀ {ks : List Int} {us : List Value}, Vals (ks.map V.int) us → ItemsAre (intKind P w) ks us
  | [], _, .nil => .nil
  | k :: ks, _, .cons h t => by
    obtain ⟨tk, rfl⟩ := (show ∃ t, _ = Value.int k t from h)
    exact .cons (by show Value.isInt k (.int k tk) = true; simp [Value.isInt]) (ints_items t)
theorem tkey (I : Inv X pins σ H s) (h : SqT X.K H b (ks.map V.int)) : (tupleKind (intKind X.prog X.w)).is s.heap ks b := by
  obtain ⟨its, rv, ⟨o, ho, hc, n, hd⟩, hz⟩ := I.tuple h
  exact ⟨o, its.toArray, n, ho, hc, hd, by simpa using ints_items rv⟩
theorem tdict (I : Inv X pins σ H s) (h : TiIn X.K H a xs) : (a == sysModules) = false ∧ xs.length ≤ sizeLine ∧ ∃ ys, PR xs ys ∧ s.heap.DictOfH (tupleKind (intKind X.prog X.w)) a ys := by
  obtain ⟨⟨q, z, n, ys, p, o, es, ep, e1, e2, e3, e4⟩, rest⟩ := (show ObjOk X.prog X.w H s.heap a (TiD a xs) from I.hok a _ h.1)
  refine ⟨q, z, ys, p, o, es, ep, e1, e2, e3, e4, ?_, by rw [← PR.keys p]; exact n⟩
  have hk := h.2
  clear rest e4 n z q h e3 e2 e1
  induction p with
  | nil => exact fun _ h => nomatch h
  | @cons p q ps qs hq t ih =>
    intro x hx
    rcases List.mem_cons.mp hx with e | hx
    · subst e
      have := tkey I (hk p (List.mem_cons_self ..))
      rw [hq.1, hq.2.1] at this
      exact this
    · exact ih (fun p hp => hk p (List.mem_cons_of_mem _ hp)) x hx
theorem ti_ok {P : Program} {w : World} {H' : Hp} {h' : Heap} {ys : List (List Int × Addr × Value)} (q : (a == sysModules) = false) (z : xs.length ≤ sizeLine) (p : PR xs ys) (dd : h'.DictOfH (tupleKind (intKind P w)) a ys) : ObjOk P w H' h' a (TiD a xs) := by
  obtain ⟨o, es, ep, e1, e2, e3, e4, _, e5⟩ := dd
  exact TiRaw.ok ⟨q, z, by rw [p.keys]; exact e5, ys, p, o, es, ep, e1, e2, e3, e4⟩
theorem ti_in {Q : Value → Shared → Prop} (hu : A.units + 1 < cLine) (I : Inv X pins σ H s) (h : TiIn X.K H a xs) (hb : SqT X.K H b (ks.map V.int)) (q : ∀ s', Inv X pins σ H s' → Q (.bool (valI xs ks).isSome) s') :
    wpAny (model X.prog X.w) A (compareOp .In (.ref b) (.ref a)) Q E s := by
  obtain ⟨hd, z, ys, rel, dd⟩ := tdict I h
  refine wpAny_in_heap (tupleKind_room_in1 hu) (tkey I hb) hd dd ?_
  have e := (rel.val ks).isSome_eq
  rw [Option.isSome_map] at e
  rw [← e]
  exact q _ (I.tok _)
theorem ti_nin {Q : Value → Shared → Prop} (hu : A.units + 1 < cLine) (I : Inv X pins σ H s) (h : TiIn X.K H a xs) (hb : SqT X.K H b (ks.map V.int)) (q : ∀ s', Inv X pins σ H s' → Q (.bool (!(valI xs ks).isSome)) s') :
    wpAny (model X.prog X.w) A (compareOp .NotIn (.ref b) (.ref a)) Q E s := by
  obtain ⟨hd, z, ys, rel, dd⟩ := tdict I h
  refine wpAny_notIn_heap (tupleKind_room_in1 hu) (tkey I hb) hd dd ?_
  have e := (rel.val ks).isSome_eq
  rw [Option.isSome_map] at e
  rw [← e]
  exact q _ (I.tok _)
theorem ti_write {h' : Heap} {t' : Nat} {v : V} {u : Value} {ys : List (List Int × Addr × Value)} (I : Inv X pins σ H s) (h : TiIn X.K H a xs) (hd : (a == sysModules) = false) (z : xs.length < sizeLine) (rel : PR xs ys) (rv : RelV v u)
    (dd : h'.DictOfH (tupleKind (intKind X.prog X.w)) a (storedH ys ks b u)) (sb : Heap.SameBut a s.heap h') : Inv X pins σ (upd H a (TiD a (putI xs ks b v))) { s with heap := h', toks := t' } := by
  have ex : ∃ q, h'.get? a = some q := let ⟨q, _, _, hq, _⟩ := dd; ⟨q, hq⟩
  exact d_write I (by rw [h.1]; exact True.intro) sb ex (ti_ok hd (by have := putI_len xs ks b v; omega) (rel.put ks b rv) dd)
theorem ti_set {Q : Unit → Shared → Prop} {v : V} {u : Value} (hu : A.units + 1 < cLine) (I : Inv X pins σ H s) (h : TiIn X.K H a xs) (hb : SqT X.K H b (ks.map V.int)) (z : xs.length < sizeLine) (rv : RelV v u)
    (q : ∀ s', Inv X pins σ (upd H a (TiD a (putI xs ks b v))) s' → Q () s') : wpAny (model X.prog X.w) A (setItem (.ref a) (.ref b) u) Q E s := by
  obtain ⟨hd, _, ys, rel, dd⟩ := tdict I h
  have hz : ys.length ≤ sizeLine := by rw [← rel.len]; omega
  exact wpAny_setItem_heap (hsz := hz) (tupleKind_room_in1 hu) (tkey I hb) dd fun h' dd' sb => q _ (ti_write I h hd z rel rv dd' sb)
theorem ti_new {Q : Unit → Shared → Prop} {v : V} {u : Value} (hu : A.units < cLine) (I : Inv X pins σ H s) (h : TiIn X.K H a xs) (hb : SqT X.K H b (ks.map V.int)) (z : xs.length < sizeLine) (rv : RelV v u)
    (q : ∀ s', Inv X pins σ (upd H a (TiD a (putI xs ks b v))) s' → Q () s') : wpAny (model X.prog X.w) A (dictSet a (.ref b) u) Q E s := by
  obtain ⟨hd, _, ys, rel, dd⟩ := tdict I h
  have hz : ys.length ≤ sizeLine := by rw [← rel.len]; omega
  exact wpAny_dictSet_heap (hsz := hz) hu (tkey I hb) dd fun h' dd' sb => q _ (ti_write I h hd z rel rv dd' sb)
end

/-! ### {k: v for ..}, the keys tuples of ints -/
section
variable {X : Cx}
/-- what one turn leaves: the pair is in the dict at D -/
def Stored (K : PySem.W.Frag) (D : Addr) (nx : Hp → Prop) (y z : V) (H : Hp) : Prop := ∃ xs ks b, y = .ref b ∧ SqT K H b (ks.map V.int) ∧ TiIn K H D xs ∧ xs.length < sizeLine ∧ nx (upd H D (TiD D (putI xs ks b z)))
/-- one turn of the comprehension, from the item x -/
def dTurn (K : PySem.W.Frag) (g : TG) (tt : TT) (tk tv : TE) (vs : List Nat) (σ : L2.St) (D : Addr) (nx : Hp → Prop) (x : V) (H : Hp) : Prop := g x (wipe σ vs) H fun σ2 H2 => wipe σ2 vs = wipe σ vs ∧
  tt σ2 H2 fun b H3 => if b = true then tk σ2 H3 fun y H4 => tv σ2 H4 fun z H5 => Stored K D nx y z H5 else nx H3
def tDcI (K : PySem.W.Frag) (wi : TI) (g : TG) (tt : TT) (tk tv : TE) (vs : List Nat) : TE := fun σ H Q => wi σ H fun J H1 => ∀ D, H1 D = none → ∃ W : Nat → Nat → Hp → Prop, (∃ m, W 0 m (upd H1 D (TiD D []))) ∧
  ∀ i m H, W i m H → (J.stop i H ∧ Q (.ref D) H) ∨ (J.go i H ∧ ∃ nx : Hp → Prop, (∀ H', nx H' → ∃ m', m' < m ∧ W (i + 1) m' H') ∧ ∀ x H', J.yld i H x H' → dTurn K g tt tk tv vs σ D nx x H')
theorem ti_empty {P : Program} {w : World} {H : Hp} (h : Heap) (hb : sysModules < h.objs.size) : ObjOk P w H (h.push { cls := .type "dict", data := .dict #[] }) h.objs.size (TiD h.objs.size []) :=
  TiRaw.ok ⟨beq_eq_false_iff_ne.mpr (Ne.symm (Nat.ne_of_lt hb)), Nat.zero_le _, List.nodup_nil, [], .nil, _, #[], 0, Heap.get?_push_size _ rfl, ⟨rfl, rfl, rfl⟩, rfl, rfl⟩

section
variable {kx vx tg iter : Expr} {ifs : List Expr} {scope : Scope} {own : List Nat} {pos : Pos} {g : TG} {tt : TT} {tk tv : TE} {σ : L2.St} {D it L : Addr} {J : It} {fp : List Addr} {tn : Nat → Heap → Prop} {W : Nat → Nat → Hp → Prop} {Q : VK}
/-- the loop, in the block's own context B -/
theorem dc_walk {B : Cx} {R : Result → Shared → Prop} (hc : B.calm = true) (hu : B.A.units < cLine) (T : Turn B.prog B.w B.K tg J fp it tn) (pg : PG B tg g) (pt : PTs B ifs tt) (pk : PE B kx tk) (pv : PE B vx tv)
    (stat : ∀ {τ : L2.St} {H' : Hp} {s' : Shared}, Inv B [] τ H' s' → (∀ b ∈ fp, H' b = none) → ∀ b ∈ fp, FpOk B [] H' b)
    (hW : ∀ i m H, W i m H → (J.stop i H ∧ Q (.ref D) H) ∨ (J.go i H ∧ ∃ nx : Hp → Prop, (∀ H', nx H' → ∃ m', m' < m ∧ W (i + 1) m' H') ∧ ∀ x H', J.yld i H x H' → dTurn B.K g tt tk tv own σ D nx x H'))
    (hend : ∀ s' H', Inv B [] (wipe σ own) H' s' → Q (.ref D) H' → R (.ok .next) s') (hxe : B.xe = fun _ _ => False)
    {s0 : Shared} {H0 : Hp} {m0 : Nat} (I0 : Inv B [] (wipe σ own) H0 s0) (t0 : tn 0 s0.heap) (n0 : ∀ b ∈ fp, H0 b = none) (w0 : W 0 m0 H0) :
    codeAny (model B.prog B.w) B.A (.compLoop (.DictComp kx vx [⟨tg, iter, ifs, 0⟩] scope pos) 0 (.ref it) (.ref D) B.env) R s0 := by
  refine compLoop_anyD (fun n s' => ∃ i H', Inv B [] (wipe σ own) H' s' ∧ tn i s'.heap ∧ (∀ b ∈ fp, H' b = none) ∧ W i n H') ?_ m0 ⟨0, H0, I0, t0, n0, w0⟩
  rintro n s1 ⟨i, H1, I1, t1, n1, w1⟩
  rcases hW i n H1 w1 with ⟨stop, q⟩ | ⟨go, nx, hnx, step⟩
  · refine thnF (T.done B rfl rfl rfl hc i [] s1 _ H1 (fun _ _ => False) I1 (stat I1 n1) t1 stop) fun r s2 ⟨hr, I2⟩ => ?_
    subst hr
    exact hend s2 H1 I2 q
  refine thnF (T.item B rfl rfl rfl hc i [] s1 _ H1 (fun _ _ => False) I1 (stat I1 n1) t1 go) fun r s2 ⟨u, hr, h2⟩ => ?_
  subst hr
  refine thnF h2 fun _ s3 ⟨x, H3, I3, rx, yx, t3, n3⟩ => ?_
  have I3' := I3.pinned (stat I3 n3) (T.obj _ _ t3)
  have r1 := pg.run _ s3 _ H3 x u _ I3' rx (step x H3 yx)
  rw [hxe] at r1
  refine thnF r1 fun _ s4 ⟨σ4, H4, I4, hw4, q4⟩ => ?_
  have close : ∀ {s' : Shared} {H' : Hp}, Inv B ([] ++ pinsAt fp s3.heap) σ4 H' s' → nx H' → ∃ m, m < n ∧ ∃ i H', Inv B [] (wipe σ own) H' s' ∧ tn i s'.heap ∧ (∀ b ∈ fp, H' b = none) ∧ W i m H' := fun {s' H'} I' z => by
    obtain ⟨m', hm, w'⟩ := hnx H' z
    have pin : ∀ b ∈ fp, ∀ o, s3.heap.get? b = some o → s'.heap.get? b = some o ∧ H' b = none := fun b hb o e => by
      have := I'.pin (b, o) (List.mem_append_right _ (List.mem_append_right _ (mem_pinsAt hb e)))
      exact ⟨this.1, this.2.1⟩
    refine ⟨m', hm, i + 1, H', (I'.unpinned (pins := [])).weak (by rw [← hw4, wipe_length]) (fun j v e => ?_), T.keep _ _ _ t3 fun b hb o e => (pin b hb o e).1, fun b hb => ?_, w'⟩
    · rw [← hw4] at e
      exact (wipe_some e).1
    · obtain ⟨o, e, _⟩ := T.obj _ _ t3 b hb
      exact (pin b hb o e).2
  have r2 := pt.run _ s4 σ4 H4 _ I4 q4
  rw [hxe] at r2
  refine thnF r2 fun b s5 ⟨H5, I5, q5⟩ => ?_
  cases b with
  | false => exact close I5 q5
  | true =>
    have r3 := pk.run _ s5 σ4 H5 _ I5 q5
    rw [hxe] at r3
    refine thnF r3 fun z s6 ⟨yk, H6, I6, rk, q6⟩ => ?_
    have r4 := pv.run _ s6 σ4 H6 _ I6 q6
    rw [hxe] at r4
    refine thnF r4 fun z2 s7 ⟨yv, H7, I7, rv, xs, ks, b, ey, hb, hD, hz, zz⟩ => ?_
    subst ey
    cases (show z = Value.ref b from rk)
    exact ti_new hu I7 hD hb hz rv fun s8 I8 => close I8 zz
end
theorem dcI_core {kx vx tg iter : Expr} {ifs : List Expr} {scope : Scope} {own : List (Str × Nat)} {pos pos' : Pos} {wi : TI} {g : TG} {tt : TT} {tk tv : TE} {pins : List (Addr × Obj)} {s : Shared} {σ : L2.St} {H : Hp} {Q : VK} {use : Option (Value → Sem Unit)} {Qf : Value → Shared → Prop}
    (hc : X.calm = true) (hu : X.A.units < cLine) (hN : X.N.Nodup) (I : Inv X pins σ H s) (hi : PI X tg iter wi) (ok : BlkOk X.N X.env.scope scope own)
    (hg : ∀ s H C cl fp, PG (X.blk s H scope (compEnvC scope cl C X.env) fp) tg g) (ht : ∀ s H C cl fp, PTs (X.blk s H scope (compEnvC scope cl C X.env) fp) ifs tt) (hk : ∀ s H C cl fp, PE (X.blk s H scope (compEnvC scope cl C X.env) fp) kx tk)
    (hv : ∀ s H C cl fp, PE (X.blk s H scope (compEnvC scope cl C X.env) fp) vx tv) (hs0 : ∀ x, foldedSetIterable iter X.env x = pure x) (h : tDcI X.K wi g tt tk tv (own.map (·.2)) σ H Q)
    (fin : ∀ D C s' m H', Inv X pins σ H' s' → Q (.ref D) H' → s'.heap.Ns C m → FpOk X pins H' C → compPost (model X.prog X.w) X.A X.xe use Qf (.ref D) C (.ok .next) s') :
    wpAny (model X.prog X.w) X.A (comprehension (.DictComp kx vx [⟨tg, iter, ifs, 0⟩] scope pos) scope X.env pos' newDict false (eval iter X.env) use) Qf X.xe s := by
  have free : ∀ y ∈ scope.names, y.2 = .free → ∃ c, X.env.cells.lookup y.1 = some c := fun y hy e => (ok.free y hy e).elim (fun k => I.ok.has _ (.inl k)) fun k => I.ok.has _ (.inr k)
  refine wpAny_comprehension_free (use := use) rfl hs0 (closure_ok free) ok.kind (fun y hy e => by rw [ok.uniq y hy, e]) (thn (hi.run pins s σ H _ I h) fun xv s1 hx => thn hx fun itv s2 h2 => ?_)
  obtain ⟨it, fp, tn, J, H2, rfl, I2, T, t2, f2, q⟩ := h2
  refine wpAny_newObj_type (newEnv_comp ?_)
  have hDn : H2 s2.heap.objs.size = none := I2.hok.fresh (Nat.le_refl _)
  obtain ⟨W, ⟨m0, w0⟩, turn⟩ := q _ hDn
  -- the dict is laid
  have I3 : Inv X pins σ (upd H2 s2.heap.objs.size (TiD s2.heap.objs.size [])) { s2 with heap := s2.heap.push { cls := .type "dict", data := .dict #[] } } :=
    I2.laid (t' := s2.toks) (fun b o e => Heap.get?_push_of_some _ e) (Nat.le_refl _) (ti_empty s2.heap I2.big)
  have below : ∀ b ∈ fp, b < s2.heap.objs.size := fun b hb => let ⟨_, e, _⟩ := T.obj _ _ t2 b hb; Heap.lt_size e
  have z3 : (s2.heap.push { cls := .type "dict", data := .dict #[] }).objs.size = s2.heap.objs.size + 1 := Heap.size_push ..
  have k3 : ∀ b o, s2.heap.get? b = some o → (s2.heap.push { cls := .type "dict", data := .dict #[] }).get? b = some o := fun b o e => Heap.get?_push_of_some _ e
  generalize s2.heap.push { cls := .type "dict", data := .dict #[] } = h3 at I3 z3 k3 ⊢
  have f3 : ∀ b ∈ fp, FpOk X pins (upd H2 s2.heap.objs.size (TiD s2.heap.objs.size [])) b ∧ b < h3.objs.size := fun b hb => by
    have lt := below b hb
    refine ⟨⟨?_, (f2 b hb).2⟩, by rw [z3]; exact Nat.lt_succ_of_lt lt⟩
    rw [upd_ne (Nat.ne_of_lt lt)]
    exact (f2 b hb).1
  have t3 : tn 0 h3 := T.keep _ _ _ t2 fun b _ o e => k3 b o e
  generalize hD : s2.heap.objs.size = D at *
  generalize hH : upd H2 D (TiD D []) = H3 at *
  have I4 := block_start I3 ok hN f3
  have t4 : tn 0 (pushCells (h3.push { cls := .type "dict", data := .dict #[] }) scope.names) := T.keep _ _ _ t3 fun b _ o e => pushCells_keeps _ _ _ _ (Heap.get?_push_of_some _ e)
  have walk : codeAny (model X.prog X.w) X.A (.compLoop (.DictComp kx vx [⟨tg, iter, ifs, 0⟩] scope pos) 0 (.ref it) (.ref D) (compEnvC scope (cellsFrom (h3.objs.size + 1) scope.names (cloFrom X.env.cells scope.names [])) h3.objs.size X.env))
      (compPost (model X.prog X.w) X.A X.xe use Qf (.ref D) h3.objs.size) { s2 with heap := pushCells (h3.push { cls := .type "dict", data := .dict #[] }) scope.names } := by
    refine dc_walk (B := X.blk { s2 with heap := h3 } H3 scope (compEnvC scope (cellsFrom (h3.objs.size + 1) scope.names (cloFrom X.env.cells scope.names [])) h3.objs.size X.env) fp) hc hu T (hg ..) (ht ..) (hk ..) (hv ..)
      (fun {τ H' s'} I' hn b hb => ⟨hn b hb, (I'.ok.exf b hb).1, I'.ok.exfs b hb, .inl hb, fun x c e => (I'.ok.exf b hb).2 x c e, fun p hp => absurd (show p ∈ ([] : List (Addr × Obj)) ++ [] from hp) (by simp)⟩)
      turn (fun s' H' I' q' => ?_) rfl I4 t4 (fun b hb => (f3 b hb).1.1) w0
    -- back in the context around
    have I5 : Inv X pins σ H' s' := I3.call' (ch := fp) I'.os I'.base I'.hok I'.bare fun b hb => ⟨(f3 b hb).1.2.2.2.1, (f3 b hb).1.2.1, (f3 b hb).1.2.2.2.2.1, (f3 b hb).1.2.2.2.2.2⟩
    have nC : H' h3.objs.size = none := I'.free
    obtain ⟨m, hn, _⟩ := I'.loc
    exact fin D h3.objs.size s' m H' I5 q' hn (I3.fpOk (Nat.le_refl _) nC)
  exact codeAny_compStart_dict walk (T.self X.A 0 _ _ _ t4 walk)
theorem pe_dcI {kx vx tg iter : Expr} {ifs : List Expr} {scope : Scope} {own : List (Str × Nat)} {pos : Pos} {wi : TI} {g : TG} {tt : TT} {tk tv : TE} (hc : X.calm = true) (hu : X.A.units < cLine) (hN : X.N.Nodup) (hi : PI X tg iter wi) (ok : BlkOk X.N X.env.scope scope own)
    (hg : ∀ s H C cl fp, PG (X.blk s H scope (compEnvC scope cl C X.env) fp) tg g) (ht : ∀ s H C cl fp, PTs (X.blk s H scope (compEnvC scope cl C X.env) fp) ifs tt) (hk : ∀ s H C cl fp, PE (X.blk s H scope (compEnvC scope cl C X.env) fp) kx tk)
    (hv : ∀ s H C cl fp, PE (X.blk s H scope (compEnvC scope cl C X.env) fp) vx tv) (hs0 : ∀ x, foldedSetIterable iter X.env x = pure x := by intro _; rfl) :
    PE X (.DictComp kx vx [⟨tg, iter, ifs, 0⟩] scope pos) (tDcI X.K wi g tt tk tv (own.map (·.2))) := by
  refine ⟨fun pins s σ H Q I h => ?_⟩
  rw [arm_eval_DictComp]
  refine dcI_core hc hu hN I hi ok hg ht hk hv hs0 h fun D C s' m H' I' q' hn f => ⟨m, hn, fun h5 sb => ?_⟩
  obtain ⟨c0, c1, c2, c3, c4, c5⟩ := f
  exact ⟨.ref D, H', I'.turned (t' := s'.toks) (fun b o hb e => (sb.2 b hb).trans e) c0 c1 c3 c4 c5, rfl, q'⟩
theorem sw_trueD {kx vx : Expr} {gs : List Comprehension} {scope : Scope} {pos py : Pos} {y : Str} {l : Nat} {env : Env} (hk : env.scope.kind = .function) (hy : env.scope.names.lookup y = some .local) (hl : (py.line == pos.line) = true)
    (ha : (scope.names.any fun (n, k) => n == y && (k == .local || k == .cell)) = false) : swapsWith (.DictComp kx vx gs scope pos) (some (.Name y py)) l env = pure true := by
  have e1 : env.kindOf y = some .local := hy
  have e2 : env.blockKind = .function := by unfold Env.blockKind; rw [hk]; rfl
  unfold swapsWith
  simp only [e1, e2, ha, Expr.pos, hl]
  rfl
/-- y = {k: v for ..} -/
theorem ps_setDcI {i : Nat} {y : Str} {py spos : Pos} {kx vx tg iter : Expr} {ifs : List Expr} {scope : Scope} {own : List (Str × Nat)} {pos : Pos} {wi : TI} {g : TG} {tt : TT} {tk tv : TE} (hc : X.calm = true) (hu : X.A.units < cLine) (hN : X.N.Nodup) (hy : X.N[i]? = some y)
    (hyl : X.env.scope.names.lookup y = some .local) (hsw : swapsWith (.DictComp kx vx [⟨tg, iter, ifs, 0⟩] scope pos) (some (.Name y py)) spos.line X.env = pure true) (hi : PI X tg iter wi) (ok : BlkOk X.N X.env.scope scope own)
    (hg : ∀ s H C cl fp, PG (X.blk s H scope (compEnvC scope cl C X.env) fp) tg g) (ht : ∀ s H C cl fp, PTs (X.blk s H scope (compEnvC scope cl C X.env) fp) ifs tt) (hk : ∀ s H C cl fp, PE (X.blk s H scope (compEnvC scope cl C X.env) fp) kx tk)
    (hv : ∀ s H C cl fp, PE (X.blk s H scope (compEnvC scope cl C X.env) fp) vx tv) (hs0 : ∀ x, foldedSetIterable iter X.env x = pure x := by intro _; rfl) :
    PS X (.Assign [.Name y py] (.DictComp kx vx [⟨tg, iter, ifs, 0⟩] scope pos) spos) (tAsg (tDcI X.K wi g tt tk tv (own.map (·.2))) (gName i)) := by
  refine ⟨fun pins s σ H D I h => ?_⟩
  rw [exec_Assign_Name_used _ _ _ _ hsw]
  refine wpAny_bind (wpAny_standAt (wpAny_bind ?_))
  show wpAny _ X.A (do let _ ← comprehension (.DictComp kx vx [⟨tg, iter, ifs, 0⟩] scope pos) scope X.env (firstIterPos [⟨tg, iter, ifs, 0⟩] pos) newDict false (eval iter X.env) (some (assign (.Name y py) X.env))) _ _ s
  have h' : tDcI X.K wi g tt tk tv (own.map (·.2)) σ H (fun x H1 => gName i x σ H1 D.nx) := h
  refine wpAny_bind (thn (dcI_core (Qf := fun _ s' => SP X pins D .next s') hc hu hN I hi ok hg ht hk hv hs0 h' fun L C s' m H' I' q hn f => ?_) fun _ s' z => wpAny_pure (wpAny_pure z))
  show wpAny _ _ (assign (.Name y py) X.env (.ref L)) _ _ _
  refine wpAny_assign_Name (store_ok2 (v := V.ref L) I' hN hy (.inl hyl) rfl (fun s2 I2 ⟨a, sb, ha⟩ => ?_) (.inr hyl))
  obtain ⟨c0, c1, c2, c3, c4, c5⟩ := f
  have ne : C ≠ a := ha.elim (fun z => by rw [z]; exact c1) fun z e => c4 y a z e.symm
  exact ⟨m, hn.sameBut sb ne, fun h3 sb3 => ⟨_, H', I2.turned (t' := s2.toks) (fun b o hb e => (sb3.2 b hb).trans e) c0 c1 c3 c4 c5, q⟩⟩
end
end Dg
/-! Dm: dicts whose keys are tuples of ints: the mirror. -/
namespace Dg
open PySem PySem.Spec PyProof.Rows L2

def tkeyL : List U → Option (List Int)
  | [] => some []
  | .int i :: us => (tkeyL us).map (i :: ·)
  | _ :: _ => none
def tkeyU : U → Option (List Int)
  | .tup us => tkeyL us
  | _ => none
theorem tkeyL_ok : ∀ {us : List U} {ks : List Int}, tkeyL us = some ks → us = ks.map U.int
  | [], _, e => by cases e; rfl
  | u :: us, ks, e => by
    cases u with
    | int i =>
      obtain ⟨l, h, rfl⟩ := Option.map_eq_some_iff.mp e
      rw [List.map_cons, ← tkeyL_ok h]
    | _ => cases e
theorem tkeyU_ok {K : PySem.W.Frag} {H : Hp} {ρ : List Addr} {u : U} {v : V} {ks : List Int} (r : RepV K H ρ u v) (e : tkeyU u = some ks) : ∃ b, v = .ref b ∧ SqT K H b (ks.map V.int) := by
  cases r with
  | tup hs hr =>
    rw [tkeyL_ok (show tkeyL _ = some ks from e)] at hr
    rw [RepVs.ints hr] at hs
    exact ⟨_, rfl, hs⟩
  | _ => cases e
abbrev KI := List (List Int × U)
def valUI (kus : KI) (k : List Int) : Option U := (kus.find? fun x => decide (x.1 = k)).map (·.2)
def putUI (kus : KI) (k : List Int) (u : U) : KI :=
  if (kus.any fun x => decide (x.1 = k)) = true then kus.map (fun x => if x.1 = k then (x.1, u) else x) else kus ++ [(k, u)]
inductive RepTi (K : PySem.W.Frag) (H : Hp) (ρ : List Addr) : KI → Ti → Prop
  | nil : RepTi K H ρ [] []
  | cons {k : List Int} {u : U} {b : Addr} {v : V} {kus : KI} {xs : Ti} : SqT K H b (k.map V.int) → RepV K H ρ u v → RepTi K H ρ kus xs → RepTi K H ρ ((k, u) :: kus) ((k, b, v) :: xs)
section
variable {K : PySem.W.Frag} {H : Hp} {ρ : List Addr}
theorem RepTi.of : ∀ {kus : KI} {xs : Ti}, (∀ p ∈ xs, SqT K H p.2.1 (p.1.map V.int)) → xs.map (·.1) = kus.map (·.1) → RepVs K H ρ (kus.map (·.2)) (xs.map (·.2.2)) → RepTi K H ρ kus xs
  | [], [], _, _, _ => .nil
  | [], _ :: _, _, e, _ => by simp at e
  | _ :: _, [], _, e, _ => by simp at e
  | (k, u) :: kus, (k', b, v) :: xs, h, e, r => by
    simp only [List.map_cons, List.cons.injEq] at e
    obtain ⟨rfl, e⟩ := e
    rw [List.map_cons, List.map_cons] at r
    cases r with
    | cons r1 r2 => exact .cons (h _ (List.mem_cons_self ..)) r1 (RepTi.of (fun p hp => h p (List.mem_cons_of_mem _ hp)) e r2)
theorem RepTi.to {kus : KI} {xs : Ti} (r : RepTi K H ρ kus xs) : (∀ p ∈ xs, SqT K H p.2.1 (p.1.map V.int)) ∧ xs.map (·.1) = kus.map (·.1) ∧ RepVs K H ρ (kus.map (·.2)) (xs.map (·.2.2)) := by
  induction r with
  | nil => exact ⟨(fun _ h => nomatch h), rfl, .nil⟩
  | cons h r t ih =>
    refine ⟨fun p hp => ?_, by simp only [List.map_cons, ih.2.1], by rw [List.map_cons, List.map_cons]; exact .cons r ih.2.2⟩
    rcases List.mem_cons.mp hp with rfl | hp
    · exact h
    · exact ih.1 p hp
theorem RepTi.mono {H' : Hp} {ρ' : List Addr} {kus : KI} {xs : Ti} (t : TX H H') (e : Ext ρ ρ') (r : RepTi K H ρ kus xs) : RepTi K H' ρ' kus xs := by
  induction r with
  | nil => exact .nil
  | cons h r _ ih => exact .cons (t.seq h) (r.mono t e) ih
theorem RepTi.len {kus : KI} {xs : Ti} (r : RepTi K H ρ kus xs) : xs.length = kus.length := by
  induction r with
  | nil => rfl
  | cons h r _ ih => simp [ih]
theorem RepTi.val {kus : KI} {xs : Ti} (r : RepTi K H ρ kus xs) (k : List Int) : (valUI kus k = none → valI xs k = none) ∧ ∀ u, valUI kus k = some u → ∃ v, valI xs k = some v ∧ RepV K H ρ u v := by
  induction r with
  | nil => exact ⟨fun _ => rfl, fun u e => by simp [valUI] at e⟩
  | @cons k' u b v kus xs h r t ih =>
    by_cases e : k' = k
    · refine ⟨fun q => by simp [valUI, e] at q, fun w q => ⟨v, by simp [valI, e], ?_⟩⟩
      simp [valUI, e] at q
      exact q ▸ r
    · have e1 : valUI ((k', u) :: kus) k = valUI kus k := by simp [valUI, e]
      have e2 : valI ((k', b, v) :: xs) k = valI xs k := by simp [valI, e]
      rw [e1, e2]; exact ih
theorem RepTi.any {kus : KI} {xs : Ti} (r : RepTi K H ρ kus xs) (k : List Int) : (xs.any fun x => decide (x.1 = k)) = (kus.any fun x => decide (x.1 = k)) := by
  induction r with
  | nil => rfl
  | cons h r t ih => simp [ih]
theorem RepTi.swap {k : List Int} {u : U} {v : V} (ru : RepV K H ρ u v) {kus : KI} {xs : Ti} (r : RepTi K H ρ kus xs) :
    RepTi K H ρ (kus.map fun x => if x.1 = k then (x.1, u) else x) (xs.map fun x => if x.1 = k then (x.1, x.2.1, v) else x) := by
  induction r with
  | nil => exact .nil
  | @cons k' u' b' v' kus xs h r t ih =>
    rw [List.map_cons, List.map_cons]
    by_cases e : k' = k
    · subst e
      simp only [if_true]
      exact .cons h ru ih
    · simp only [e, if_false]
      exact .cons h r ih
theorem RepTi.snoc {k : List Int} {b : Addr} {u : U} {v : V} (hb : SqT K H b (k.map V.int)) (ru : RepV K H ρ u v) {kus : KI} {xs : Ti} (r : RepTi K H ρ kus xs) : RepTi K H ρ (kus ++ [(k, u)]) (xs ++ [(k, b, v)]) := by
  induction r with
  | nil => exact .cons hb ru .nil
  | cons h r t ih => exact .cons h r ih
theorem RepTi.put {kus : KI} {xs : Ti} (r : RepTi K H ρ kus xs) {k : List Int} {b : Addr} {u : U} {v : V} (hb : SqT K H b (k.map V.int)) (ru : RepV K H ρ u v) : RepTi K H ρ (putUI kus k u) (putI xs k b v) := by
  unfold putUI putI
  rw [r.any k]
  split
  · exact r.swap ru
  · exact r.snoc hb ru
theorem dtt_of {μ : Mem} (hm : RepM K H ρ μ) {i : Nat} {a : Addr} {kus : KI} (e : ρ[i]? = some a) (h : μ[i]? = some (.dtt kus)) : ∃ xs, H a = some (TiD a xs) ∧ RepTi K H ρ kus xs := by
  obtain ⟨xs, q, m, w, r⟩ := hm.get e h
  exact ⟨xs, q, RepTi.of m w r⟩
theorem newTi {μ : Mem} (hm : RepM K H ρ μ) {p : Addr} (np : H p = none) : Stp K ρ H (ρ ++ [p]) (upd H p (TiD p [])) (μ ++ [.dtt []]) :=
  Stp.new hm np ⟨[], upd_same, (fun _ h => nomatch h), rfl, .nil⟩
theorem putTi {μ : Mem} (hm : RepM K H ρ μ) {i : Nat} {a : Addr} {kus kus' : KI} {xs' : Ti} (e : ρ[i]? = some a) (h : μ[i]? = some (.dtt kus)) (r : RepTi K H ρ kus' xs') : Stp K ρ H ρ (upd H a (TiD a xs')) (μ.set i (.dtt kus')) := by
  have t : TX H (upd H a (TiD a xs')) := (hm.get e h).tx rfl
  have q := (r.mono t (Ext.refl _)).to
  exact Stp.put hm e h rfl ⟨xs', upd_same, q.1, q.2.1, q.2.2⟩
end
def dttU (μ : Mem) : U → Option KI
  | .ref i => match μ[i]? with
    | some (.dtt kus) => some kus
    | _ => none
  | _ => none
theorem dtt_at {K : PySem.W.Frag} {ρ : List Addr} {μ : Mem} {H : Hp} {u : U} {x : V} {kus : KI} (hm : RepM K H ρ μ) (ru : RepV K H ρ u x) (hd : dttU μ u = some kus) :
    ∃ i a xs, u = .ref i ∧ ρ[i]? = some a ∧ μ[i]? = some (.dtt kus) ∧ x = .ref a ∧ H a = some (TiD a xs) ∧ RepTi K H ρ kus xs := by
  cases ru with
  | @ref i a hr =>
    have e1 : μ[i]? = some (.dtt kus) := by
      unfold dttU at hd
      simp only at hd
      split at hd
      all_goals first
        | (cases hd; assumption)
        | (cases hd; done)
    obtain ⟨xs, q1, r1⟩ := dtt_of hm hr e1
    exact ⟨i, a, xs, rfl, hr, e1, rfl, q1, r1⟩
  | _ => simp [dttU] at hd
section
variable {X : Cx} {W : WX} {k : Nat}
/-! ### in -/
def rInTi (K : PySem.W.Frag) (neg : Bool) : R2 := fun x y H Q => ∃ a b xs ks, x = .ref b ∧ y = .ref a ∧ TiIn K H a xs ∧ SqT K H b (ks.map V.int) ∧ Q (.bl (if neg then !(valI xs ks).isSome else (valI xs ks).isSome)) H
theorem op_inTi (hu : X.A.units + 1 < cLine) : OpR X (compareOp .In) (rInTi X.K false) := by
  intro pins s σ H x y v u Q I rx ry h
  obtain ⟨a, b, xs, ks, rfl, rfl, hd, hb, q⟩ := h
  obtain rfl : v = Value.ref b := rx
  obtain rfl : u = Value.ref a := ry
  exact ti_in hu I hd hb fun s' I' => ⟨.bl (valI xs ks).isSome, H, I', rfl, q⟩
theorem op_ninTi (hu : X.A.units + 1 < cLine) : OpR X (compareOp .NotIn) (rInTi X.K true) := by
  intro pins s σ H x y v u Q I rx ry h
  obtain ⟨a, b, xs, ks, rfl, rfl, hd, hb, q⟩ := h
  obtain rfl : v = Value.ref b := rx
  obtain rfl : u = Value.ref a := ry
  exact ti_nin hu I hd hb fun s' I' => ⟨.bl (!(valI xs ks).isSome), H, I', rfl, q⟩
def uInX (u w : U) (μ : Mem) : Res U := match dttU μ w with
  | some kus => match tkeyU u with
    | some ks => .ok (.bl (valUI kus ks).isSome) μ
    | none => .bad
  | none => uIn u w μ
def uNinX (u w : U) (μ : Mem) : Res U := match dttU μ w with
  | some kus => match tkeyU u with
    | some ks => .ok (.bl (!(valUI kus ks).isSome)) μ
    | none => .bad
  | none => uNin u w μ
theorem RepTi.isSome {K : PySem.W.Frag} {H : Hp} {ρ : List Addr} {kus : KI} {xs : Ti} (r : RepTi K H ρ kus xs) (k : List Int) : (valI xs k).isSome = (valUI kus k).isSome := by
  cases e : valUI kus k with
  | none => rw [(r.val k).1 e]; rfl
  | some u => obtain ⟨v, q, _⟩ := (r.val k).2 u e; rw [q]; rfl
theorem os_inX (G : Good X W (k + 40)) : OpS X W (compareOp .In) uInX := by
  intro ρ μ σ H u w x y Q hm ru rw' h
  unfold uInX at h
  cases e : dttU μ w with
  | none => rw [e] at h; exact os_in G ρ μ σ H u w x y Q hm ru rw' h
  | some kus =>
    rw [e] at h
    simp only at h
    cases ek : tkeyU u with
    | none => rw [ek] at h; exact h.elim
    | some ks =>
      rw [ek] at h
      obtain ⟨i, a, xs, rfl, hr, em, rfl, hH, r⟩ := dtt_at hm rw' e
      obtain ⟨b, rfl, hb⟩ := tkeyU_ok ru ek
      exact ⟨_, op_inTi G.hu, a, b, xs, ks, rfl, rfl, ⟨hH, r.to.1⟩, hb, h.ok (Stp.refl hm) (by simp only [Bool.false_eq_true, if_false, r.isSome]; exact .bl)⟩
theorem os_ninX (G : Good X W (k + 40)) : OpS X W (compareOp .NotIn) uNinX := by
  intro ρ μ σ H u w x y Q hm ru rw' h
  unfold uNinX at h
  cases e : dttU μ w with
  | none => rw [e] at h; exact os_nin G ρ μ σ H u w x y Q hm ru rw' h
  | some kus =>
    rw [e] at h
    simp only at h
    cases ek : tkeyU u with
    | none => rw [ek] at h; exact h.elim
    | some ks =>
      rw [ek] at h
      obtain ⟨i, a, xs, rfl, hr, em, rfl, hH, r⟩ := dtt_at hm rw' e
      obtain ⟨b, rfl, hb⟩ := tkeyU_ok ru ek
      exact ⟨_, op_ninTi G.hu, a, b, xs, ks, rfl, rfl, ⟨hH, r.to.1⟩, hb, h.ok (Stp.refl hm) (by simp only [if_true, r.isSome]; exact .bl)⟩

/-! ### d[t] = e -/
def rSetTi (K : PySem.W.Frag) : TSet := fun o i v H Q => ∃ a b xs ks, o = .ref a ∧ i = .ref b ∧ TiIn K H a xs ∧ SqT K H b (ks.map V.int) ∧ xs.length < sizeLine ∧ Q (upd H a (TiD a (putI xs ks b v)))
theorem set_ti (hu : X.A.units + 1 < cLine) : PSet X (rSetTi X.K) := by
  intro pins s σ H o i v ov iv u Q I ro ri rv h
  obtain ⟨a, b, xs, ks, rfl, rfl, hd, hb, hz, q⟩ := h
  obtain rfl : ov = Value.ref a := ro
  obtain rfl : iv = Value.ref b := ri
  exact ti_set hu I hd hb hz rv fun s' I' => ⟨_, I', q⟩
def stUX (o i u : U) (μ : Mem) : Option Mem := match o with
  | .ref r => match μ[r]? with
    | some (.dtt kus) => match tkeyU i with
      | some ks => if kus.length < lim then some (μ.set r (.dtt (putUI kus ks u))) else none
      | none => none
    | _ => stU o i u μ
  | _ => stU o i u μ
def sStoreX (o i a : FE) : FS := fun s μ => ofR (a s μ) s fun u μ1 => ofR (o s μ1) s fun x μ2 => ofR (i s μ2) s fun y μ3 => match stUX x y u μ3 with
  | some μ4 => .nx s μ4
  | none => .bad
theorem stUX_no {o i u : U} {μ : Mem} (h : dttU μ o = none) : stUX o i u μ = stU o i u μ := by
  unfold stUX
  cases o with
  | ref r =>
    simp only
    split
    · rename_i kus e
      simp [dttU, e] at h
    · rfl
  | _ => rfl
theorem cs_storeX {o i e : Expr} {mo mi me : FE} {pos pos' : Pos} (G : Good X W (k + 40)) (ho : CE X W o mo) (hi : CE X W i mi) (he : CE X W e me)
    (h1 : ∀ {to ti te : TE}, PE X o to → PE X i ti → PE X e te → PS X (.Assign [.Subscript o i pos'] e pos) (tAsg te (gSub to ti rSetL)))
    (h2 : ∀ {to ti te : TE}, PE X o to → PE X i ti → PE X e te → PS X (.Assign [.Subscript o i pos'] e pos) (sDPut to ti te))
    (h3 : ∀ {to ti te : TE}, PE X o to → PE X i ti → PE X e te → PS X (.Assign [.Subscript o i pos'] e pos) (tAsg te (gSub to ti (rSetTi X.K)))) : CS X W (.Assign [.Subscript o i pos'] e pos) (sStoreX mo mi me) := by
  intro ρ μ s σ H D hs hm h
  by_cases hd : ∃ u μ1 x μ2 y μ3 kus, me s μ = .ok u μ1 ∧ mo s μ1 = .ok x μ2 ∧ mi s μ2 = .ok y μ3 ∧ dttU μ3 x = some kus
  · obtain ⟨u, μ1, x, μ2, y, μ3, kus, e1, e2, e3, e4⟩ := hd
    refine ⟨_, h3 pe_w pe_w pe_w, ?_⟩
    unfold sStoreX at h
    simp only [e1, e2, e3, ofR] at h
    refine he ρ μ s σ H _ hs hm ?_
    rw [e1]
    intro uv H1 ρ1 t1 r1
    refine ho ρ1 μ1 s σ H1 _ (t1.s hs) t1.mem ?_
    rw [e2]
    intro xv H2 ρ2 t2 r2
    refine hi ρ2 μ2 s σ H2 _ (t2.s (t1.s hs)) t2.mem ?_
    rw [e3]
    intro yv H3 ρ3 t3 r3
    have g4 := PostS.from ((t1.trans t2).trans t3) h
    obtain ⟨r, a, xs, rfl, hr, em, rfl, hH, rk⟩ := dtt_at t3.mem (t3.v r2) e4
    simp only [stUX, em] at g4
    cases ek : tkeyU y with
    | none => rw [ek] at g4; exact g4.elim
    | some ks =>
      rw [ek] at g4
      simp only at g4
      by_cases hz : kus.length < lim
      · rw [if_pos hz] at g4
        obtain ⟨b, rfl, hb⟩ := tkeyU_ok r3 ek
        have t4 := putTi t3.mem hr em (rk.put hb (t3.v (t2.v r1)))
        exact ⟨a, b, xs, ks, rfl, rfl, ⟨hH, rk.to.1⟩, hb, by rw [rk.len]; exact lim_lt hz, g4 σ _ ρ3 t4 (t4.s (t3.s (t2.s (t1.s hs))))⟩
      · rw [if_neg hz] at g4; exact g4.elim
  · refine cs_store G ho hi he h1 h2 ρ μ s σ H D hs hm ?_
    have e : sStoreX mo mi me s μ = sStore mo mi me s μ := by
      unfold sStoreX sStore
      cases e1 : me s μ with
      | ok u μ1 =>
        simp only [ofR]
        cases e2 : mo s μ1 with
        | ok x μ2 =>
          simp only
          cases e3 : mi s μ2 with
          | ok y μ3 =>
            simp only
            have n : dttU μ3 x = none := by
              cases q : dttU μ3 x with
              | none => rfl
              | some kus => exact absurd ⟨u, μ1, x, μ2, y, μ3, kus, e1, e2, e3, q⟩ hd
            rw [stUX_no n]
            try (cases stU x y u μ3 <;> rfl)
          | _ => rfl
        | _ => rfl
      | _ => rfl
    rw [← e]
    exact h

/-! ### {t: v for ..} -/
def dcGo (j : IterU) (own : List Nat) (g : Tgt) (t : FT) (kk e : FE) (s : Slots) (D : Nat) : Nat → Nat → Mem → Res U
  | 0, _, _ => .bad
  | f + 1, i, μ => match itemAt j i μ with
    | none => .bad
    | some none => .ok (.ref D) μ
    | some (some u) => match setT g u (wipeU s own) with
      | none => .bad
      | some s1 => match t s1 μ with
        | .ok true μ3 => match kk s1 μ3 with
          | .ok kv μ4 => match e s1 μ4 with
            | .ok v μ5 => match μ5[D]? with
              | some (.dtt acc) => match tkeyU kv with
                | some ks => if acc.length < lim then dcGo j own g t kk e s D f (i + 1) (μ5.set D (.dtt (putUI acc ks v))) else .bad
                | none => .bad
              | _ => .bad
            | _ => .bad
          | _ => .bad
        | .ok false μ3 => dcGo j own g t kk e s D f (i + 1) μ3
        | _ => .bad
def fDcI (it : FI) (own : List Nat) (g : Tgt) (t : FT) (kk e : FE) : FE := fun s μ => (it s μ).bind fun j μ1 => dcGo j own g t kk e s μ1.length fuelF 0 (μ1 ++ [.dtt []])
theorem Post.into {α β : Type} {σ : L2.St} {rel : RelT α β} {ρ ρ1 : List Addr} {H H1 : Hp} {μ1 : Mem} {r : Res α} {Q : β → Hp → Prop} (t : Stp X.K ρ H ρ1 H1 μ1) (h : Post X W σ rel ρ H r Q) : Post X W σ rel ρ1 H1 r Q := by
  cases r with
  | ok c m2 => exact fun v2 H3 ρ3 t3 q3 => h v2 H3 ρ3 (t.trans t3) q3
  | ex c m2 => exact fun cls H3 ρ3 t3 e => h cls H3 ρ3 (t.trans t3) e
  | bad => exact h
theorem dcI_reads {tg iter : Expr} {ifs : List Expr} {kx vx : Expr} {scope : Scope} {own : List Nat} {mi : FI} {g : Tgt} {t : FT} {kk e : FE} (hi : CI X W tg iter mi)
    (hg : ∀ s H0 C cl fp, CG (X.blk s H0 scope (compEnvC scope cl C X.env) fp) tg g) (ht : ∀ s H0 C cl fp, CTs (X.blk s H0 scope (compEnvC scope cl C X.env) fp) W0 ifs t)
    (hk : ∀ s H0 C cl fp, CE (X.blk s H0 scope (compEnvC scope cl C X.env) fp) W0 kx kk) (he : ∀ s H0 C cl fp, CE (X.blk s H0 scope (compEnvC scope cl C X.env) fp) W0 vx e) (hsub : subT g own = true)
    {ρ : List Addr} {μ : Mem} {s : Slots} {σ : L2.St} {H : Hp} {Q : VK} (hs : RepS X.K H ρ s σ) (hm : RepM X.K H ρ μ) (h : Post X W σ relV ρ H (fDcI mi own g t kk e s μ) Q) :
    tDcI X.K (WI X tg iter) (WGb X scope tg) (WTb X scope ifs) (WEb X scope kx) (WEb X scope vx) own σ H Q := by
  refine hi ρ μ s σ H _ hs hm (h.bind fun j μ1 J H1 ρ1 t1 r1 h1 => ?_)
  intro D hD
  have hJ : ItOk X.K ρ1 H1 j J := r1
  have tD := newTi t1.mem hD
  refine ⟨fun i m H' => ∃ ρ' μ', Stp X.K (ρ1 ++ [D]) (upd H1 D (TiD D [])) ρ' H' μ' ∧ Post X W σ relV ρ' H' (dcGo j own g t kk e s μ1.length m i μ') Q, ⟨fuelF, ρ1 ++ [D], μ1 ++ [.dtt []], Stp.refl tD.mem, h1.into tD⟩, ?_⟩
  intro i m H' ⟨ρ', μ', t', h'⟩
  have hDr : ρ'[μ1.length]? = some D := t'.ext.get (by rw [← t1.mem.len, List.getElem?_append_right (Nat.le_refl _)]; simp)
  cases m with
  | zero => exact h'.elim
  | succ m =>
    have q := hJ i ρ' H' μ' (tD.ext.trans t'.ext) (tD.tx.trans t'.tx) t'.mem
    unfold dcGo at h'
    cases e0 : itemAt j i μ' with
    | none => rw [e0] at h'; exact h'.elim
    | some o =>
      rw [e0] at h' q
      cases o with
      | none => exact .inl ⟨q, h'.ok (Stp.refl t'.mem) (.ref hDr)⟩
      | some u =>
        refine .inr ⟨q.1, fun H2 => ∃ ρ2 μ2, Stp X.K (ρ1 ++ [D]) (upd H1 D (TiD D [])) ρ2 H2 μ2 ∧ Post X W σ relV ρ2 H2 (dcGo j own g t kk e s μ1.length m (i + 1) μ2) Q, fun H2 z => ⟨m, Nat.lt_succ_self m, z⟩, fun x H'' y => ?_⟩
        obtain ⟨t2, ru⟩ := q.2 x H'' y
        simp only at h'
        have hsw : RepS X.K H'' ρ' (wipeU s own) (wipe σ own) := (t2.s (t'.s (tD.s (t1.s hs)))).wipe own
        cases es : setT g u (wipeU s own) with
        | none => rw [es] at h'; exact h'.elim
        | some s1 =>
          rw [es] at h'
          simp only at h'
          intro s0 H0 C cl fp
          refine hg s0 H0 C cl fp ρ' (wipeU s own) (wipe σ own) H'' u x s1 _ hsw ru es fun σ3 hs3 hw => ⟨?_, ?_⟩
          · have := hw own (subT_ok hsub)
            rw [this]
            exact wipe_wipe fun i hi => hi
          · intro s0' H0' C' cl' fp'
            refine ht s0' H0' C' cl' fp' ρ' μ' s1 σ3 H'' _ hs3 t2.mem ?_
            cases et : t s1 μ' with
            | ex c m2 => rw [et] at h'; exact h'.elim
            | bad => rw [et] at h'; exact h'.elim
            | ok b μ3 =>
              rw [et] at h'
              intro b' H4 ρ4 t4 r4
              cases r4
              cases b with
              | false => exact iteF ⟨ρ4, μ3, (t'.trans t2).trans t4, Post.into (t2.trans t4) h'⟩
              | true =>
                refine iteT ?_
                intro s0' H0' C' cl' fp'
                refine hk s0' H0' C' cl' fp' ρ4 μ3 s1 σ3 H4 _ (t4.s hs3) t4.mem ?_
                simp only at h'
                cases ekk : kk s1 μ3 with
                | ex c m2 => rw [ekk] at h'; exact h'.elim
                | bad => rw [ekk] at h'; exact h'.elim
                | ok kv μ4 =>
                  rw [ekk] at h'
                  simp only at h'
                  intro yk H5 ρ5 t5 r5
                  intro s0' H0' C' cl' fp'
                  refine he s0' H0' C' cl' fp' ρ5 μ4 s1 σ3 H5 _ (t5.s (t4.s hs3)) t5.mem ?_
                  cases ee : e s1 μ4 with
                  | ex c m2 => rw [ee] at h'; exact h'.elim
                  | bad => rw [ee] at h'; exact h'.elim
                  | ok v μ5 =>
                    rw [ee] at h'
                    simp only at h'
                    intro w H6 ρ6 t6 r6
                    split at h'
                    · rename_i acc em
                      split at h'
                      · rename_i ks ek
                        split at h'
                        · rename_i hz
                          have hD6 : ρ6[μ1.length]? = some D := t6.ext.get (t5.ext.get (t4.ext.get (t2.ext.get hDr)))
                          obtain ⟨xs, q6, rr⟩ := dtt_of t6.mem hD6 em
                          obtain ⟨b, rfl, hb⟩ := tkeyU_ok (t6.v r5) ek
                          have t7 := putTi t6.mem hD6 em (rr.put hb r6)
                          exact ⟨xs, ks, b, rfl, hb, ⟨q6, rr.to.1⟩, by rw [rr.len]; exact lim_lt hz, ρ6, _, ((((t'.trans t2).trans t4).trans t5).trans t6).trans t7, Post.into ((((t2.trans t4).trans t5).trans t6).trans t7) h'⟩
                        · exact h'.elim
                      · exact h'.elim
                    · exact h'.elim
theorem ce_dcI {tg iter : Expr} {ifs : List Expr} {kx vx : Expr} {scope : Scope} {own : List (Str × Nat)} {pos : Pos} {mi : FI} {g : Tgt} {t : FT} {kk e : FE} (G : Good X W (k + 40)) (hN : X.N.Nodup) (ok : BlkOk X.N X.env.scope scope own) (hi : CI X W tg iter mi)
    (hg : ∀ s H0 C cl fp, CG (X.blk s H0 scope (compEnvC scope cl C X.env) fp) tg g) (ht : ∀ s H0 C cl fp, CTs (X.blk s H0 scope (compEnvC scope cl C X.env) fp) W0 ifs t)
    (hk : ∀ s H0 C cl fp, CE (X.blk s H0 scope (compEnvC scope cl C X.env) fp) W0 kx kk) (he : ∀ s H0 C cl fp, CE (X.blk s H0 scope (compEnvC scope cl C X.env) fp) W0 vx e) (hsub : subT g (own.map (·.2)) = true)
    (hs0 : ∀ x, foldedSetIterable iter X.env x = pure x := by intro _; rfl) : CE X W (.DictComp kx vx [⟨tg, iter, ifs, 0⟩] scope pos) (fDcI mi (own.map (·.2)) g t kk e) :=
  fun ρ μ s σ H Q hs hm h => ⟨_, pe_dcI G.calm (Nat.lt_of_succ_lt G.hu) hN pi_w ok pg_wb pts_wb pe_wb pe_wb hs0, dcI_reads hi hg ht hk he hsub hs hm h⟩
theorem cs_setDcI {i : Nat} {y : Str} {py : Pos} {tg iter : Expr} {ifs : List Expr} {kx vx : Expr} {scope : Scope} {own : List (Str × Nat)} {pos spos : Pos} {mi : FI} {g : Tgt} {t : FT} {kk e : FE} (G : Good X W (k + 40)) (hN : X.N.Nodup) (hy : X.N[i]? = some y) (hyl : X.env.scope.names.lookup y = some .local)
    (hsw : swapsWith (.DictComp kx vx [⟨tg, iter, ifs, 0⟩] scope pos) (some (.Name y py)) spos.line X.env = pure true) (ok : BlkOk X.N X.env.scope scope own) (hi : CI X W tg iter mi)
    (hg : ∀ s H0 C cl fp, CG (X.blk s H0 scope (compEnvC scope cl C X.env) fp) tg g) (ht : ∀ s H0 C cl fp, CTs (X.blk s H0 scope (compEnvC scope cl C X.env) fp) W0 ifs t)
    (hk : ∀ s H0 C cl fp, CE (X.blk s H0 scope (compEnvC scope cl C X.env) fp) W0 kx kk) (he : ∀ s H0 C cl fp, CE (X.blk s H0 scope (compEnvC scope cl C X.env) fp) W0 vx e) (hsub : subT g (own.map (·.2)) = true)
    (hs0 : ∀ x, foldedSetIterable iter X.env x = pure x := by intro _; rfl) :
    CS X W (.Assign [.Name y py] (.DictComp kx vx [⟨tg, iter, ifs, 0⟩] scope pos) spos) (sAsg (.one i) (fDcI mi (own.map (·.2)) g t kk e)) := by
  intro ρ μ s σ H D hs hm h
  refine ⟨_, ps_setDcI G.calm (Nat.lt_of_succ_lt G.hu) hN hy hyl hsw pi_w ok pg_wb pts_wb pe_wb pe_wb hs0, ?_⟩
  refine dcI_reads (W := W) hi hg ht hk he hsub hs hm ?_
  exact PostS.bind hs h fun u μ1 x H1 ρ1 t1 r1 h1 => h1 _ H1 ρ1 (Stp.refl t1.mem) ((t1.s hs).set r1)
end
end Dg
/-! Dn: pairs of ints: >=, sorted. -/
namespace Dg
open PySem PySem.Spec PyProof.Rows L2
def prU (p : Int × Int) : U := .tup [.int p.1, .int p.2]
def prsU : List U → Option (List (Int × Int))
  | [] => some []
  | .tup [.int a, .int b] :: us => (prsU us).map ((a, b) :: ·)
  | _ :: _ => none
theorem prsU_ok : ∀ {us : List U} {ps : List (Int × Int)}, prsU us = some ps → us = ps.map prU
  | [], _, e => by cases e; rfl
  | u :: us, ps, e => by
    unfold prsU at e
    split at e
    · rename_i h; cases h
    · rename_i a b us' h
      cases h
      obtain ⟨l, h, rfl⟩ := Option.map_eq_some_iff.mp e
      rw [List.map_cons, ← prsU_ok h]
      rfl
    · cases e
theorem prsU_map : ∀ ps : List (Int × Int), prsU (ps.map prU) = some ps
  | [] => rfl
  | p :: ps => by simp [prsU, prU, prsU_map ps]
/-- p before q -/
def ltPr (p q : Int × Int) : Bool := SrtO.lexB p q
def insP (x : Int × Int) : List (Int × Int) → List (Int × Int)
  | [] => [x]
  | y :: ys => if ltPr y x = true then y :: insP x ys else x :: y :: ys
def sortP : List (Int × Int) → List (Int × Int)
  | [] => []
  | x :: xs => insP x (sortP xs)
theorem insP_perm (x : Int × Int) : ∀ ys, (insP x ys).Perm (x :: ys)
  | [] => List.Perm.refl _
  | y :: ys => by
    unfold insP
    split
    · exact ((insP_perm x ys).cons y).trans (List.Perm.swap x y ys)
    · exact List.Perm.refl _
theorem sortP_perm : ∀ xs, (sortP xs).Perm xs
  | [] => List.Perm.refl _
  | x :: xs => (insP_perm x (sortP xs)).trans ((sortP_perm xs).cons x)
abbrev leP (x y : Int × Int) : Prop := ltPr y x = false
theorem leP_trans {x y z : Int × Int} (a : leP x y) (b : leP y z) : leP x z := by
  have a := SrtO.lexB_no.mp a
  have b := SrtO.lexB_no.mp b
  exact SrtO.lexB_no.mpr (by omega)
theorem leP_anti {x y : Int × Int} (a : leP x y) (b : leP y x) : x = y := by
  have a := SrtO.lexB_no.mp a
  have b := SrtO.lexB_no.mp b
  exact Prod.ext (by omega) (by omega)
theorem leP_of_lt {x y : Int × Int} (a : ltPr x y = true) : leP x y := by
  have a := SrtO.lexB_iff.mp a
  exact SrtO.lexB_no.mpr (by omega)
theorem insP_sorted (x : Int × Int) : ∀ ys : List (Int × Int), ys.Pairwise leP → (insP x ys).Pairwise leP
  | [], _ => by simp [insP]
  | y :: ys, h => by
    unfold insP
    rw [List.pairwise_cons] at h
    split
    · rename_i c
      rw [List.pairwise_cons]
      refine ⟨fun z hz => ?_, insP_sorted x ys h.2⟩
      rcases List.mem_cons.mp ((insP_perm x ys).mem_iff.mp hz) with e | e
      · rw [e]; exact leP_of_lt c
      · exact h.1 z e
    · rename_i c
      have c' : leP x y := by simpa using c
      rw [List.pairwise_cons, List.pairwise_cons]
      refine ⟨fun z hz => ?_, h⟩
      rcases List.mem_cons.mp hz with e | e
      · rw [e]; exact c'
      · exact leP_trans c' (h.1 z e)
theorem sortP_sorted : ∀ xs, (sortP xs).Pairwise leP
  | [] => .nil
  | x :: xs => insP_sorted x _ (sortP_sorted xs)
theorem uniqueP : ∀ {a b : List (Int × Int)}, a.Perm b → a.Pairwise leP → b.Pairwise leP → a = b
  | [], b, h, _, _ => (List.Perm.eq_nil h.symm).symm
  | x :: a, [], h, _, _ => absurd h.length_eq (by simp)
  | x :: a, y :: b, h, ha, hb => by
    rw [List.pairwise_cons] at ha hb
    have e : x = y := by
      have h1 : x ∈ y :: b := h.mem_iff.mp (List.mem_cons_self ..)
      have h2 : y ∈ x :: a := h.mem_iff.mpr (List.mem_cons_self ..)
      rcases List.mem_cons.mp h1 with e | h1
      · exact e
      · rcases List.mem_cons.mp h2 with e | h2
        · exact e.symm
        · exact leP_anti (ha.1 y h2) (hb.1 x h1)
    subst e
    rw [uniqueP h.cons_inv ha.2 hb.2]
section
variable {X : Cx} {W : WX} {k : Nat}
def rGeP (K : PySem.W.Frag) : R2 := fun x y H Q => ∃ (a b : Addr) (p q : Int × Int), x = .ref a ∧ y = .ref b ∧ SqT K H a [.int p.1, .int p.2] ∧ SqT K H b [.int q.1, .int q.2] ∧ Q (.bl (!ltPr p q)) H
theorem holds_pr {pins : List (Addr × Obj)} {σ : L2.St} {H : Hp} {s : Shared} {a : Addr} {p : Int × Int} (I : Inv X pins σ H s) (h : SqT X.K H a [.int p.1, .int p.2]) : PySem.W.Holds s.heap (.ref a) p := by
  obtain ⟨as, r⟩ := Dp.reads I (.tuple [.int p.1, .int p.2]) (.ref a) (.ref a) (.tup h (.cons (.int _) (.cons (.int _) .nil))) rfl
  exact ⟨as, r⟩
theorem op_geP (hu : X.A.units + 800 < cLine) : OpR X (compareOp .GtE) (rGeP X.K) := by
  intro pins s σ H x y v u Q I rx ry h
  obtain ⟨a, b, p, q, rfl, rfl, ha, hb, z⟩ := h
  obtain rfl : v = Value.ref a := rx
  obtain rfl : u = Value.ref b := ry
  refine PySem.W.ge_datum (holds_pr I ha) (holds_pr I hb) (Nat.lt_of_le_of_lt (Nat.add_le_add_left (by decide) _) hu) ⟨.bl (!ltPr p q), H, I, rfl, z⟩
def uGeX (u w : U) (μ : Mem) : Res U := match u, w with
  | .tup [.int a, .int b], .tup [.int c, .int d] => .ok (.bl (!ltPr (a, b) (c, d))) μ
  | u, w => uGe u w μ
theorem os_geX (G : Good X W (k + 40)) : OpS X W (compareOp .GtE) uGeX := by
  intro ρ μ σ H u w x y Q hm ru rw' h
  unfold uGeX at h
  split at h
  · rename_i a b c d
    cases ru with
    | tup h1 r1 =>
      cases rw' with
      | tup h2 r2 =>
        have e1 := RepVs.ints (is := [a, b]) r1
        have e2 := RepVs.ints (is := [c, d]) r2
        subst e1 e2
        exact ⟨_, op_geP G.un, _, _, (a, b), (c, d), rfl, rfl, h1, h2, h.ok (Stp.refl hm) .bl⟩
  · exact os_ge ρ μ σ H u w x y Q hm ru rw' h
/-- the pairs ps stand as tuples -/
abbrev PrA (K : PySem.W.Frag) (H : Hp) : List (Int × Int) → List V → Prop := Paired fun p x => ∃ t, x = V.ref t ∧ SqT K H t [.int p.1, .int p.2]
/-- sorted(xs), xs a list of pairs of ints -/
def rSortedPQ (K : PySem.W.Frag) : List V → Hp → VK → Prop := fun vs H Q => ∃ (a : Addr) (xs : List V) (ps : List (Int × Int)), vs = [V.ref a] ∧ SqL K H a xs ∧ PrA K H ps xs ∧
  ∀ ys p, PrA K H (sortP ps) ys → H p = none → Q (.ref p) (upd H p (.lst ys))
open Classical in
noncomputable def prK (K : PySem.W.Frag) (H : Hp) (x : V) : Int × Int := if h : ∃ (p : Int × Int) (t : Addr), x = V.ref t ∧ SqT K H t [.int p.1, .int p.2] then h.choose else (0, 0)
theorem prK_ok {K : PySem.W.Frag} {H : Hp} {x : V} {p : Int × Int} {t : Addr} (e : x = V.ref t) (h : SqT K H t [.int p.1, .int p.2]) : ∃ t', x = V.ref t' ∧ SqT K H t' [.int (prK K H x).1, .int (prK K H x).2] := by
  have ex : ∃ (p : Int × Int) (t : Addr), x = V.ref t ∧ SqT K H t [.int p.1, .int p.2] := ⟨p, t, e, h⟩
  unfold prK
  rw [dif_pos ex]
  exact ex.choose_spec
theorem PrA.mk {K : PySem.W.Frag} {H : Hp} (f : V → Int × Int) : ∀ {ys : List V}, (∀ y ∈ ys, ∃ t, y = V.ref t ∧ SqT K H t [.int (f y).1, .int (f y).2]) → PrA K H (ys.map f) ys
  | [], _ => .nil
  | y :: ys, all => .cons (all y (List.mem_cons_self ..)) (PrA.mk f fun z hz => all z (List.mem_cons_of_mem _ hz))
theorem cr_sortedPQ : CallR X (.builtin "sorted") (rSortedPQ X.K) := by
  intro pins s σ H vs us Q I r h
  obtain ⟨a, xs, ps, rfl, hs, hps, q⟩ := h
  obtain ⟨its, rv, hl, hz⟩ := I.list hs
  obtain ⟨u, rfl, ru⟩ := vals1 r
  obtain rfl : u = Value.ref a := ru
  -- the pair of each
  have hk : ps = xs.map (prK X.K H) ∧ ∀ x ∈ xs, ∃ t, x = V.ref t ∧ SqT X.K H t [.int (prK X.K H x).1, .int (prK X.K H x).2] := by
    clear hs rv hl q r hz
    induction hps with
    | nil => exact ⟨rfl, fun _ h => nomatch h⟩
    | @cons p x ps xs h t ih =>
      obtain ⟨a, rfl, ha⟩ := h
      obtain ⟨a', e, ha'⟩ := prK_ok rfl ha
      cases e
      have e := I.tuple_inj ha ha'
      simp only [List.cons.injEq, V.int.injEq, and_true] at e
      have ep : p = prK X.K H (V.ref a) := Prod.ext e.1 e.2
      refine ⟨by rw [List.map_cons, ← ep, ← ih.1], fun y hy => ?_⟩
      rcases List.mem_cons.mp hy with rfl | hy
      · exact ⟨a, rfl, ha'⟩
      · exact ih.2 y hy
  obtain ⟨ek, hx⟩ := hk
  obtain ⟨e1, e2⟩ := refs_back rv fun x m => let ⟨t, e, _⟩ := hx x m; ⟨t, e⟩
  refine SrtO.sorted_pairsO (k := fun u => prK X.K H (backV u)) hl.isList (by rw [← rv.length]; exact hz) (fun v hv => ?_) fun h' d out h1 h2 kp hd hn => ?_
  · obtain ⟨t, rfl⟩ := e2 v hv
    obtain ⟨t', e, ht⟩ := hx (V.ref t) (by rw [e1]; exact List.mem_map.mpr ⟨_, hv, rfl⟩)
    cases e
    obtain ⟨its2, r2, ⟨o, ho, hc, n, hd⟩, _⟩ := I.tuple ht
    obtain ⟨u1, u2, rfl, ⟨t1, rfl⟩, ⟨t2, rfl⟩⟩ := vals2 r2
    exact ⟨t, o, t1, t2, n, rfl, ho, hc, hd⟩
  · have h3 : ∀ u ∈ out, ∃ a, u = Value.ref a := fun u hu => e2 u (h2.perm.mem_iff.mp hu)
    obtain ⟨n, hn⟩ := hn
    have pm : (out.map backV).Perm xs := by rw [e1]; exact h2.perm.map _
    have sd : ((out.map backV).map (prK X.K H)).Pairwise leP := by
      have := SrtO.srtd_map (lt := ltP (prK X.K H)) h1
      exact List.pairwise_map.mpr this
    have es : sortP ps = (out.map backV).map (prK X.K H) := uniqueP (((sortP_perm ps).trans (List.Perm.of_eq ek)).trans (pm.map _).symm) (sortP_sorted ps) sd
    refine ⟨.ref d, upd H d (.lst (out.map backV)), I.laid (t' := s.toks) kp hd ⟨by rw [pm.length_eq]; exact hz, out, n, vals_back h3, hn⟩, rfl, q _ d ?_ (I.hok.fresh hd)⟩
    rw [es]
    exact PrA.mk _ fun y hy => hx y (pm.mem_iff.mp hy)
theorem PrA.of {K : PySem.W.Frag} {H : Hp} {ρ : List Addr} : ∀ {ps : List (Int × Int)} {xs : List V}, RepVs K H ρ (ps.map prU) xs → PrA K H ps xs
  | [], _, r => by cases r; exact .nil
  | p :: ps, _, r => by
    rw [List.map_cons] at r
    cases r with
    | cons r rr =>
      cases r with
      | tup h r2 =>
        have e := RepVs.ints (is := [p.1, p.2]) r2
        subst e
        exact .cons ⟨_, rfl, h⟩ (PrA.of rr)
theorem PrA.to {K : PySem.W.Frag} {H : Hp} {ρ : List Addr} {ps : List (Int × Int)} {xs : List V} (r : PrA K H ps xs) : RepVs K H ρ (ps.map prU) xs := by
  induction r with
  | nil => exact .nil
  | cons h t ih =>
    obtain ⟨a, rfl, h⟩ := h
    exact .cons (.tup h (RepVs.ofInts [_, _])) ih
def bSortedX (us : List U) (μ : Mem) : Res U := match us with
  | [u] => match lstU μ u with
    | some xs => match prsU xs with
      | some ps => .ok (.ref μ.length) (μ ++ [.lst ((sortP ps).map prU)])
      | none => bSorted [u] μ
    | none => bSorted [u] μ
  | us => bSorted us μ
theorem cs_sortedX (hc : X.calm = true) : CallS X W (.builtin "sorted") bSortedX := by
  intro ρ μ σ H us vs Q hm r h
  unfold bSortedX at h
  split at h
  · rename_i u
    cases e1 : lstU μ u with
    | none => rw [e1] at h; exact cs_sorted hc ρ μ σ H _ vs Q hm r h
    | some xs =>
      rw [e1] at h
      simp only at h
      cases e2 : prsU xs with
      | none => rw [e2] at h; exact cs_sorted hc ρ μ σ H _ vs Q hm r h
      | some ps =>
        rw [e2] at h
        cases r with
        | cons ru r0 =>
          cases r0
          obtain ⟨a, ws, rfl, hq, rr⟩ := lstU_ok hm ru e1
          rw [prsU_ok e2] at rr
          exact ⟨_, cr_sortedPQ, a, ws, ps, rfl, hq, PrA.of rr, fun ys p hy hp => h.ok (newL hm hp (PrA.to hy)) (refN hm)⟩
  · exact cs_sorted hc ρ μ σ H _ vs Q hm r h
end
end Dg
/-! Dv: a walk over reversed(x), x a list or a tuple. -/
namespace Dg
open PySem PySem.Spec PyProof.Rows L2
theorem it_rev {K : PySem.W.Frag} {H : Hp} {ρ : List Addr} {r n : Nat} {a : Addr} (hr : ρ[r]? = some a) : ItOk K ρ H (.rev r n) (Itv K a n) := by
  intro i ρ' H' μ' ex tx hm
  simp only [itemAt]
  cases e : listAt μ' r with
  | none => trivial
  | some us =>
    obtain ⟨vs, q, rr⟩ := listAt_ok hm (ex.get hr) e
    simp only [Option.bind_some]
    by_cases hi : i < n
    · rw [if_pos hi]
      cases eu : us[n - 1 - i]? with
      | none => trivial
      | some u =>
        obtain ⟨v, q2, r2⟩ := rr.get eu
        refine ⟨⟨hi, vs, v, q, q2⟩, fun x H'' y => ?_⟩
        obtain ⟨rfl, hx⟩ := y
        have := hx vs q
        rw [q2] at this
        cases this
        exact ⟨Stp.refl hm, r2⟩
    · rw [if_neg hi]
      exact Nat.le_of_not_lt hi
theorem rev_get {α : Type} {us : List α} {i : Nat} (h : i < us.length) : us.reverse[i]? = us[us.length - 1 - i]? := by
  rw [List.getElem?_reverse h]
theorem it_revT {K : PySem.W.Frag} {H : Hp} {ρ : List Addr} {a : Addr} {us : List U} {vs : List V} (hs : SqT K H a vs) (hr : RepVs K H ρ us vs) : ItOk K ρ H (.seq us.reverse) (RT.ItvT K a us.length) := by
  intro i ρ' H' μ' ex tx hm
  simp only [itemAt]
  have hs' := tx.seq hs
  have hr' := hr.mono tx ex
  by_cases hi : i < us.length
  · rw [rev_get hi]
    have hj : us.length - 1 - i < us.length := by omega
    rw [List.getElem?_eq_getElem hj]
    obtain ⟨v, q2, r2⟩ := hr'.get (List.getElem?_eq_getElem hj)
    refine ⟨⟨hi, vs, v, hs', q2⟩, fun x H'' y => ?_⟩
    obtain ⟨rfl, hx⟩ := y
    have := hx vs hs'
    rw [q2] at this
    cases this
    exact ⟨Stp.refl hm, r2⟩
  · rw [List.getElem?_eq_none (by simp; omega)]
    exact Nat.le_of_not_lt hi
section
variable {X : Cx} {W : WX}
def iRevL (a : FE) : FI := fun s μ => (a s μ).bind fun u μ1 => match u with
  | .tup us => .ok (.seq us.reverse) μ1
  | .ref r => match listAt μ1 r with
    | some us => .ok (.rev r us.length) μ1
    | none => .bad
  | _ => .bad
theorem ci_rev {tg e : Expr} {me : FE} {p pos : Pos} (he : CE X W e me) (hp : ∀ {te : TE}, PE X e te → PI X tg (.Call (.Name "reversed" p) [e] [] pos) (RT.iRevA X.K te)) : CI X W tg (.Call (.Name "reversed" p) [e] [] pos) (iRevL me) := by
  intro ρ μ s σ H R hs hm h
  refine ⟨_, hp pe_w, ?_⟩
  refine he ρ μ s σ H _ hs hm (h.bind fun u μ1 x H1 ρ1 t1 r1 h1 => ?_)
  split at h1
  · rename_i us
    cases r1 with
    | tup h2 r2 =>
      refine ⟨_, _, rfl, .inr ⟨h2, ?_⟩⟩
      have e := r2.length
      rw [← e]
      exact h1.ok (Stp.refl t1.mem) (it_revT h2 r2)
  · rename_i r
    cases r1 with
    | ref hr =>
      split at h1
      · rename_i us e
        obtain ⟨vs, q, rr⟩ := listAt_ok t1.mem hr e
        refine ⟨_, vs, rfl, .inl ⟨q, ?_⟩⟩
        rw [← rr.length]
        exact h1.ok (Stp.refl t1.mem) (it_rev hr)
      · exact h1.elim
  · exact h1.elim
/-! ### more that a suite may ask of the caught error -/
variable {i : Nat} {a : Addr}
theorem at_op {op : Operator} {e b : Expr} {f : U → U → Mem → Res U} {ma mb : FE} {pos : Pos} (ho : OpS X W (binaryOp op) f) (ha : CEat X W i a e ma) (hb : CEat X W i a b mb) : CEat X W i a (.BinOp e op b pos) (fOp f ma mb) := by
  intro ρ μ s σ H Q hi hs hm h
  refine ⟨_, pe_op op_w pe_w pe_w, ?_⟩
  refine ha ρ μ s σ H _ hi hs hm (h.bind fun u μ1 x H1 ρ1 t1 r1 h1 => ?_)
  refine hb ρ1 μ1 s σ H1 _ hi (t1.s hs) t1.mem (h1.bind fun w μ2 y H2 ρ2 t2 r2 h2 => ?_)
  exact ho ρ2 μ2 σ H2 u w x y Q t2.mem (t2.v r1) r2 h2
theorem at_callT {T : String} {x : Str} {e : Expr} {me : FE} {g : List U → Mem → Res U} {p pos : Pos} (hc : CallS X W (.type T) g) (he : CEat X W i a e me)
    (hp : ∀ {r : List V → Hp → VK → Prop} {t : TA}, CallR X (.type T) r → PA X [e] t → PE X (.Call (.Name x p) [e] [] pos) (tCB r t)) (hse : starEach (e :: []) X.env = (false, eval e X.env) :: starEach [] X.env := by rfl) : CEat X W i a (.Call (.Name x p) [e] [] pos) (fCall g (aCons me aNil)) := by
  intro ρ μ s σ H Q hi hs hm h
  refine ⟨_, hp call_w (pa_cons pe_w pa_nil hse), ?_⟩
  have h' : Post X W σ relV ρ H ((me s μ).bind fun u μ1 => g [u] μ1) Q := by
    have : fCall g (aCons me aNil) s μ = (me s μ).bind fun u μ1 => g [u] μ1 := by
      unfold fCall aCons aNil
      cases me s μ <;> rfl
    rw [← this]; exact h
  refine he ρ μ s σ H _ hi hs hm (h'.bind fun u μ1 x H1 ρ1 t1 r1 h1 => ?_)
  exact hc ρ1 μ1 σ H1 [u] [x] Q t1.mem (.cons r1 .nil) h1
end
end Dg
/-! Dz: zip of a tuple and a list. -/
namespace Dg
open PySem PySem.Spec PyProof.Rows L2 RZ
def ItzM (K : PySem.W.Frag) (ta la : Addr) : It where
  go := fun n H => ∃ (us ws : List V) (p q : V), (SqT K H ta us ∧ us[n]? = some p) ∧ SqL K H la ws ∧ ws[n]? = some q
  yld := fun n H v H' => ∃ c p q, (v = .ref c ∧ H c = none ∧ H' = upd H c (.tup [p, q])) ∧ (∀ us, SqT K H ta us → us[n]? = some p) ∧ (∀ ws, SqL K H la ws → ws[n]? = some q)
  stop := fun n H => ∃ us ws : List V, (SqT K H ta us ∧ SqL K H la ws) ∧ (us.length ≤ n ∨ ws.length ≤ n)
section
variable {P : Program} {w : World} {A : Around}
/-- draws of a tuple iterator from the place n on -/
theorem drT (hh : A.handled = none) {i a : Addr} (ne : a ≠ i) (its : Array Value) (n : Nat) : ∃ m Pv St, Draws P w A i [i, a] m Pv St ∧ n ≤ m ∧ (its.size ≤ n → n = m) ∧ (n < its.size → n < m) ∧ (∀ h : Heap, h.IsTupleIter i a n → h.IsTuple a its → St n h) ∧ (∀ x, Pv n x → its[n]? = some x) ∧ (∀ h : Heap, n < its.size → St (n + 1) h → h.IsTupleIter i a (n + 1)) := by
  by_cases lt : n < its.size
  · exact ⟨_, _, _, Draws.tuple hh i a ne its, by omega, by omega, fun _ => lt, fun h a b => ⟨a, b⟩, fun x e => e, fun h _ s => s.1⟩
  · refine ⟨n, fun _ _ => False, fun j h => j = n ∧ h.IsTupleIter i a j ∧ h.IsTuple a its, ⟨?_, ?_, ?_, ?_⟩, Nat.le_refl _, fun _ => rfl, fun h => absurd h lt, fun h a b => ⟨rfl, a, b⟩, fun x e => e.elim, fun h l => absurd l lt⟩
    · rintro j h ⟨_, ⟨o, ho, _⟩, _⟩; exact ⟨o, ho⟩
    · rintro j h h' ⟨e, s1, s2⟩ k; exact ⟨e, s1.at fun o q => k i (by simp) o q, s2.at fun o q => k a (by simp) o q⟩
    · rintro j s Q E hj ⟨e, _⟩; omega
    · rintro s Q E ⟨_, s1, s2⟩ hE
      exact wpAny_nextOf_tuple_end hh s1 s2 (by simp; omega) hE
/-- the same of a list -/
theorem drL (hh : A.handled = none) {i a : Addr} (ne : a ≠ i) (its : Array Value) (n : Nat) : ∃ m Pv St, Draws P w A i [i, a] m Pv St ∧ n ≤ m ∧ (its.size ≤ n → n = m) ∧ (n < its.size → n < m) ∧ (∀ h : Heap, h.IsListIter i a n → h.IsList a its → St n h) ∧ (∀ x, Pv n x → its[n]? = some x) ∧ (∀ h : Heap, n < its.size → St (n + 1) h → h.IsListIter i a (n + 1)) := by
  by_cases lt : n < its.size
  · exact ⟨_, _, _, Draws.list hh i a ne its, by omega, by omega, fun _ => lt, fun h a b => ⟨a, b⟩, fun x e => e, fun h _ s => s.1⟩
  · refine ⟨n, fun _ _ => False, fun j h => j = n ∧ h.IsListIter i a j ∧ h.IsList a its, ⟨?_, ?_, ?_, ?_⟩, Nat.le_refl _, fun _ => rfl, fun h => absurd h lt, fun h a b => ⟨rfl, a, b⟩, fun x e => e.elim, fun h l => absurd l lt⟩
    · rintro j h ⟨_, ⟨o, ho, _⟩, _⟩; exact ⟨o, ho⟩
    · rintro j h h' ⟨e, s1, s2⟩ k; exact ⟨e, s1.at fun o q => k i (by simp) o q, s2.at fun o q => k a (by simp) o q⟩
    · rintro j s Q E hj ⟨e, _⟩; omega
    · rintro s Q E ⟨_, s1, s2⟩ hE
      exact wpAny_nextOf_list_end hh s1 s2 (by simp; omega) hE
/-- where the zip stands -/
def ZmSt (z ti to i1 i2 a b : Addr) (n : Nat) (h : Heap) : Prop := (IsZip h z ti to .none ∧ IsTupOf2 h ti (.ref i1) (.ref i2)) ∧ (∃ p q, IsTupOf2 h to p q) ∧ h.IsTupleIter i1 a n ∧ h.IsListIter i2 b n
theorem turn_zipM {K : PySem.W.Frag} {es : List Expr} {kk : Nat} {tp : Pos} {a b z ti to i1 i2 : Addr} (S : ZipSep2 z ti to i1 i2 [i1, a] [i2, b]) (ne1 : a ≠ i1) (ne2 : b ≠ i2) :
    Turn P w K (.Tuple es kk tp) (ItzM K a b) [z, ti, to, i1, i2] z (ZmSt z ti to i1 i2 a b) where
  mem := List.mem_cons_self
  obj := by
    rintro n h ⟨⟨s1, s2⟩, ⟨p, q, s3⟩, ⟨o1, e1, _, d1⟩, ⟨o2, e2, _, d2⟩⟩ c hc
    simp only [List.mem_cons, List.not_mem_nil, or_false] at hc
    rcases hc with rfl | rfl | rfl | rfl | rfl
    · exact ⟨_, s1, fun v h => nomatch h⟩
    · exact ⟨_, s2, fun v h => nomatch h⟩
    · exact ⟨_, s3, fun v h => nomatch h⟩
    · exact ⟨o1, e1, fun v h => by rw [d1] at h; cases h⟩
    · exact ⟨o2, e2, fun v h => by rw [d2] at h; cases h⟩
  keep := by
    rintro n h h' ⟨⟨s1, s2⟩, ⟨p, q, s3⟩, s4, s5⟩ k
    exact ⟨⟨k z (by simp) _ s1, k ti (by simp) _ s2⟩, ⟨p, q, k to (by simp) _ s3⟩, s4.at fun o e => k i1 (by simp) o e, s5.at fun o e => k i2 (by simp) o e⟩
  item := by
    intro X hP hw hK hc n pins s σ H E I hf st hg
    subst hP hw hK
    obtain ⟨⟨s1, s2⟩, ⟨p0, q0, s3⟩, s4, s5⟩ := st
    obtain ⟨us, ws, p, q, ⟨qu, hp⟩, qw, hq⟩ := hg
    obtain ⟨its, rv, pt, _⟩ := I.tuple qu
    obtain ⟨itw, rw', pl, _⟩ := I.list qw
    obtain ⟨u, hu, ru⟩ := rv.get hp
    obtain ⟨w2, hw2, rw2⟩ := rw'.get hq
    have lu : n < its.toArray.size := by simpa using (List.getElem?_eq_some_iff.mp hu).1
    have lw : n < itw.toArray.size := by simpa using (List.getElem?_eq_some_iff.mp hw2).1
    have hh : X.A.in1.handled = none := I.ok.hd hc
    obtain ⟨m1, P1, S1, D1, _, _, l1, b1, c1, e1⟩ := drT (P := X.prog) (w := X.w) hh ne1 its.toArray n
    obtain ⟨m2, P2, S2, D2, _, _, l2, b2, c2, e2⟩ := drL (P := X.prog) (w := X.w) hh ne2 itw.toArray n
    have hzl : z < s.heap.objs.size := Heap.lt_size s1
    refine wpAny_pyNext_zipD2_item S D1 D2 s1 s2 s3 (b1 _ s4 pt) (b2 _ s5 pl.isList) (l1 lu) (l2 lw) fun x1 x2 h' tk y1 y2 z' to' k1 k2 hT hsz hk => ?_
    have ex1 : x1 = u := by
      have := c1 _ y1
      simp only [List.getElem?_toArray, hu] at this
      cases this; rfl
    have ex2 : x2 = w2 := by
      have := c2 _ y2
      simp only [List.getElem?_toArray, hw2] at this
      cases this; rfl
    subst ex1 ex2
    refine ⟨_, rfl, wpAny_letOwnedTupleGo_zip (s := { s with heap := h', toks := tk }) z' fun h2 z2 sb => ?_⟩
    have hT2 : IsTupOf2 h2 s.heap.objs.size x1 x2 := (sb.2 _ (Nat.ne_of_gt hzl)).trans hT
    have nw : ObjOk X.prog X.w (upd H s.heap.objs.size (.tup [p, q])) h2 s.heap.objs.size (.tup [p, q]) := ⟨by show 2 ≤ sizeLine; decide, [x1, x2], .cons ru (.cons rw2 .nil), ⟨_, hT2, rfl, _, rfl⟩⟩
    have kk : ∀ c o, c ∉ [z, ti, to, i1, i2] → s.heap.get? c = some o → h2.get? c = some o := fun c o nb e => by
      simp only [List.mem_cons, List.not_mem_nil, or_false, not_or] at nb
      exact (sb.2 _ nb.1).trans (hk c o nb.1 nb.2.2.1 nb.2.2.2.1 nb.2.2.2.2 e)
    have I1 : Inv X pins σ (upd H s.heap.objs.size (.tup [p, q])) { s with heap := h2, toks := tk } := I.turnedNew kk hf (Nat.le_refl _) nw
    refine ⟨.ref s.heap.objs.size, _, I1, rfl, ⟨_, p, q, ⟨rfl, I.hok.fresh (Nat.le_refl _), rfl⟩, fun l hl => by rw [I.tuple_inj hl qu]; exact hp, fun l hl => by rw [I.list_inj hl qw]; exact hq⟩, ?_, fun c hcm => ?_⟩
    · exact ⟨⟨z2, (sb.2 _ S.TIz).trans (hk _ _ S.TIz S.TITO S.TIi1 S.TIi2 s2)⟩, ⟨x1, x2, (sb.2 _ S.TOz).trans to'⟩, (e1 _ lu k1).at fun o e => (sb.2 _ S.zi1.symm).trans e, (e2 _ lw k2).at fun o e => (sb.2 _ S.zi2.symm).trans e⟩
    · have hlt : c < s.heap.objs.size := by
        simp only [List.mem_cons, List.not_mem_nil, or_false] at hcm
        rcases hcm with rfl | rfl | rfl | rfl | rfl
        · exact hzl
        · exact Heap.lt_size s2
        · exact Heap.lt_size s3
        · obtain ⟨_, g, _⟩ := s4; exact Heap.lt_size g
        · obtain ⟨_, g, _⟩ := s5; exact Heap.lt_size g
      rw [upd_ne (Nat.ne_of_lt hlt)]
      exact (hf c hcm).1
  done := by
    intro X hP hw hK hc n pins s σ H E I hf st hg
    subst hP hw hK
    obtain ⟨⟨s1, s2⟩, ⟨p0, q0, s3⟩, s4, s5⟩ := st
    obtain ⟨us, ws, ⟨qu, qw⟩, hend⟩ := hg
    obtain ⟨its, rv, pt, _⟩ := I.tuple qu
    obtain ⟨itw, rw', pl, _⟩ := I.list qw
    have hh : X.A.in1.handled = none := I.ok.hd hc
    obtain ⟨m1, P1, S1, D1, a1, f1, _, b1, _⟩ := drT (P := X.prog) (w := X.w) hh ne1 its.toArray n
    obtain ⟨m2, P2, S2, D2, a2, f2, _, b2, _⟩ := drL (P := X.prog) (w := X.w) hh ne2 itw.toArray n
    have n1 := rv.length
    have n2 := rw'.length
    have he : n = m1 ∨ n = m2 := hend.elim (fun h => .inl (f1 (by simp; omega))) (fun h => .inr (f2 (by simp; omega)))
    refine wpAny_pyNext_zipD2_end S D1 D2 s1 s2 s3 (b1 _ s4 pt) (b2 _ s5 pl.isList) a1 a2 he fun h' tk hk => ⟨rfl, I.turnedL (t' := tk) (ch := [z, ti, to, i1, i2]) (fun c o nb e => ?_) hf⟩
    simp only [List.mem_cons, List.not_mem_nil, or_false, not_or] at nb
    exact hk c o nb.1 nb.2.2.1 nb.2.2.2.1 nb.2.2.2.2 e
  self := fun A n s Q E st q => wpAny_pyIter_zip st.1.1 q
end
def iZipMA (K : PySem.W.Frag) (ta : TA) : TI := fun σ H R => ta σ H fun vs H1 => ∃ a b us ws, vs = [.ref a, .ref b] ∧ (SqT K H1 a us ∧ SqL K H1 b ws) ∧ R (ItzM K a b) H1
theorem pi_zipM {X : Cx} {e1 e2 : Expr} {ta : TA} {p pos tp : Pos} {es : List Expr} {kk : Nat} (gz : Gl X "zip") (mz : X.mg "zip" = none) (pa : PA X [e1, e2] ta)
    (st : starEach [e1, e2] X.env = (false, eval e1 X.env) :: starEach [e2] X.env := by rfl) (bk : (backTo pos (starEach [e2] X.env)).any (·.1) = false := by rfl) : PI X (.Tuple es kk tp) (.Call (.Name "zip" p) [e1, e2] [] pos) (iZipMA X.K ta) := by
  refine ⟨fun pins s σ H R I h => Call_ (ld_blt I gz mz PyProof.Rows.boot_zip (PyProof.Rows.callWith_type1 (thn (pa.run pos pins s σ H _ I h) ?_) st bk))⟩
  rintro us s1 ⟨vs, H1, I1, r1, a, b, ps, qs, rfl, ⟨hp, hq⟩, hR⟩
  cases r1 with
  | cons ra rr =>
    cases rr with
    | cons rb rz =>
      cases rz; cases ra; cases rb
      obtain ⟨its, rv, pt, _⟩ := I1.tuple hp
      obtain ⟨itw, rw', pl, _⟩ := I1.list hq
      have la : a < s1.heap.objs.size := by obtain ⟨o, e, _⟩ := id pt; exact Heap.lt_size e
      have lb : b < s1.heap.objs.size := pl.lt
      refine zip_begins2 (begins_tuple a its.toArray) (begins_list b itw.toArray) pt pl.isList fun h' s1' s2' s3' g1 g2 hz hk => wpAny_pyIter_zip s1' ?_
      have I2 : Inv X pins σ H1 { s1 with heap := h' } := I1.kept (t' := s1.toks) hk
      have fresh : ∀ c, c ∈ [s1.heap.objs.size + 4, s1.heap.objs.size + 2, s1.heap.objs.size + 3, s1.heap.objs.size, s1.heap.objs.size + 1] → FpOk X pins H1 c := fun c hc => by
        have le : s1.heap.objs.size ≤ c := by
          simp only [List.mem_cons, List.not_mem_nil, or_false] at hc
          rcases hc with h | h | h | h | h <;> (rw [h]; first | exact Nat.le_refl _ | exact Nat.le_add_right _ _)
        exact I1.fpOk le (I1.hok.fresh le)
      exact ⟨_, _, _, _, H1, rfl, I2, turn_zipM (zip_sep2 (fp1 := [a]) (fp2 := [b]) (fun c hc => by rw [List.mem_singleton.mp hc]; exact la) (fun c hc => by rw [List.mem_singleton.mp hc]; exact lb)) (Nat.ne_of_lt la) (Nat.ne_of_lt (Nat.lt_succ_of_lt lb)), ⟨⟨s1', s2'⟩, ⟨_, _, s3'⟩, ⟨_, g1, rfl, rfl⟩, ⟨_, g2, rfl, rfl⟩⟩, fresh, hR⟩
theorem it_zipM {K : PySem.W.Frag} {H : Hp} {ρ : List Addr} {a b : Addr} {us : List U} {vs : List V} {r : Nat} (hs : SqT K H a vs) (hr : RepVs K H ρ us vs) (h2 : ρ[r]? = some b) : ItOk K ρ H (.zipM us r) (ItzM K a b) := by
  intro i ρ' H' μ' ex tx hm
  simp only [itemAt]
  have hs' := tx.seq hs
  have hr' := hr.mono tx ex
  cases e2 : listAt μ' r with
  | none => trivial
  | some ws =>
    obtain ⟨xs, q2, rr2⟩ := listAt_ok hm (ex.get h2) e2
    simp only
    cases eu : us[i]? with
    | none =>
      refine ⟨vs, xs, ⟨hs', q2⟩, .inl ?_⟩
      rw [← hr'.length]
      exact List.getElem?_eq_none_iff.mp eu
    | some u =>
      cases ew : ws[i]? with
      | none =>
        refine ⟨vs, xs, ⟨hs', q2⟩, .inr ?_⟩
        rw [← rr2.length]
        exact List.getElem?_eq_none_iff.mp ew
      | some w =>
        obtain ⟨v, q3, r3⟩ := hr'.get eu
        obtain ⟨v2, q4, r4⟩ := rr2.get ew
        refine ⟨⟨vs, xs, v, v2, ⟨hs', q3⟩, q2, q4⟩, fun x H'' y => ?_⟩
        obtain ⟨c, x1, y1, ⟨rfl, nT, rfl⟩, f1, f2⟩ := y
        have g1 := f1 vs hs'
        rw [q3] at g1
        cases g1
        have g2 := f2 xs q2
        rw [q4] at g2
        cases g2
        exact ⟨Stp.temp hm nT, newT nT (.cons r3 (.one r4))⟩
section
variable {X : Cx} {W : WX}
/-- zip of a tuple and a list -/
def iZipM (a b : FE) : FI := fun s μ => (a s μ).bind fun u μ1 => (b s μ1).bind fun w μ2 => match u, w with
  | .tup us, .ref r => match listAt μ2 r with
    | some _ => .ok (.zipM us r) μ2
    | none => .bad
  | _, _ => .bad
theorem ci_zipM {tg a b : Expr} {ma mb : FE} {p pos : Pos} (ha : CE X W a ma) (hb : CE X W b mb)
    (hp : ∀ {ta : TA}, PA X [a, b] ta → PI X tg (.Call (.Name "zip" p) [a, b] [] pos) (iZipMA X.K ta)) (hs1 : starEach [a, b] X.env = (false, eval a X.env) :: starEach [b] X.env := by rfl) (hs2 : starEach [b] X.env = (false, eval b X.env) :: starEach [] X.env := by rfl) :
    CI X W tg (.Call (.Name "zip" p) [a, b] [] pos) (iZipM ma mb) := by
  intro ρ μ s σ H R hs hm h
  refine ⟨_, hp (pa_cons pe_w (pa_cons pe_w pa_nil hs2) hs1), ?_⟩
  refine ha ρ μ s σ H _ hs hm (h.bind fun u μ1 x H1 ρ1 t1 r1 h1 => ?_)
  refine hb ρ1 μ1 s σ H1 _ (t1.s hs) t1.mem (h1.bind fun w μ2 y H2 ρ2 t2 r2 h2 => ?_)
  have r1' := t2.v r1
  split at h2
  · cases r1' with
    | tup a1 a2 => cases r2 with
      | ref b1 =>
        split at h2
        · rename_i e2
          obtain ⟨xs, q2, _⟩ := listAt_ok t2.mem b1 e2
          exact ⟨_, _, _, _, rfl, ⟨a1, q2⟩, h2.ok (Stp.refl t2.mem) (it_zipM a1 a2 b1)⟩
        · exact h2.elim
  · exact h2.elim
end
end Dg
/-! Dt: try with several except clauses, with or without names. -/
namespace Dg
open PySem PySem.Spec PyProof.Rows L2
abbrev Hd3 := Value × Option Nat × (Addr → Value → Option Addr → TS)
/-- what goes on behind a suite that held a name -/
def behind (D : Ends) (i : Nat) : Ends := { nx := fun s H => D.nx (s.set i none) H, rt := D.rt, bk := fun s H => D.bk (s.set i none) H, ct := fun s H => D.ct (s.set i none) H }
def wMix (K : PySem.W.Frag) (W : WX) (D : Ends) : List Hd3 → WX
  | [] => W
  | (c, none, ts) :: l => fun t d σ H => ∃ y, PySem.W.exmOne K t c = some y ∧ (y = true → ∀ p, H p = none → ts p t d D σ H) ∧ (y = false → wMix K W D l t d σ H)
  | (c, some i, ts) :: l => fun t d σ H => ∃ y, PySem.W.exmOne K t c = some y ∧ (y = true → ∀ p, H p = none → ts p t d (behind D i) (σ.set i (some (.ref p))) H) ∧ (y = false → wMix K W D l t d σ H)
def SuOk (X : Cx) (su : List Stmt) (ts : Addr → Value → Option Addr → TS) : Prop := ∀ (p : Addr) (oe : Obj) (t : Value) (d : Option Addr) (pn : List (Addr × Obj)), Zc t d oe → (∃ vs, oe.data = .fields vs) → PSs (X.suite p ((p, oe) :: pn)) su (ts p t d)
inductive HdsMix (X : Cx) : List ExceptHandler → List Hd3 → Prop
  | nil : HdsMix X [] []
  | bare {x : Str} {c : Value} {ts : Addr → Value → Option Addr → TS} {b : Stmt} {su : List Stmt} {np q : Pos} {hds : List ExceptHandler} {l : List Hd3} : Names X x c → SuOk X (b :: su) ts → HdsMix X hds l → HdsMix X (.ExceptHandler (some (.Name x np)) none (b :: su) q :: hds) ((c, none, ts) :: l)
  | named {x n : Str} {i : Nat} {c : Value} {ts : Addr → Value → Option Addr → TS} {b : Stmt} {su : List Stmt} {np q : Pos} {hds : List ExceptHandler} {l : List Hd3} : Names X x c → X.N[i]? = some n → X.env.kindOf n = some .local → SuOk X (b :: su) ts → HdsMix X hds l → HdsMix X (.ExceptHandler (some (.Name x np)) (some n) (b :: su) q :: hds) ((c, some i, ts) :: l)
theorem ps_try_mix {X : Cx} {body : List Stmt} {h0 : ExceptHandler} {hds : List ExceptHandler} {l : List Hd3} {pos : Pos} {tb : WX → TS} {W : WX} (st : X.stack = X.env :: X.outer) (fr : X.env.frame = some X.env.locals) (nd : X.N.Nodup) (tk : Takes X W)
    (hb : ∀ (W' : WX) (pn : List (Addr × Obj)) (xe : Value → Shared → Prop), Takes (X.tr pn xe) W' → PassesOwn (model X.prog X.w) X.A X.env xe → PSs (X.tr pn xe) body (tb W')) (ok3 : HdsMix X (h0 :: hds) l) : PS X (.Try body (h0 :: hds) [] [] pos) (fun D σ H => tb (wMix X.K W D l) D σ H) := by
  refine ⟨fun pins s σ H D I h => ?_⟩
  have io := I.ok
  have hA : X.A.frames = some (X.env :: X.outer) := io.frames.trans (by rw [st])
  refine wpAny_Try_except (wpAny_mono ((hb (wMix X.K W D l) (X.pn ++ pins) (fun e s₁ => wpAny (model X.prog X.w) X.A (noteFrame e X.env) (fun _ s₂ => wpAny (model X.prog X.w) X.A (setFlight e none) (fun _ s₃ => wpAny (model X.prog X.w) X.A (handleBy e X.env (h0 :: hds)) (SP X pins D) X.xe s₃) X.xe s₂) X.xe s₁) ?_ PassesOwn.looking).run [] s σ H D (I.toTry _) h) ?_ fun e s1 he => he)
  · rintro u s' ⟨a, B, sI, pins', σ', H', cls, d, rfl, J', nb, up, sky, na, os, ag, w⟩
    have J : Inv X pins σ' H' sI := J'.ofTry io
    have sk : Sky B (X.env :: X.outer) a (Zc cls d) X.env.locals s'.heap := by rw [← st]; exact sky
    show wpAny (model X.prog X.w) X.A (noteFrame (.ref a) X.env) _ _ _
    refine Sky.land Zc.steady hA fr sk fun h3 fl up3 => ?_
    have J3 : Inv X pins σ' H' { s' with heap := h3 } := J.landed nb fl.1 (up.trans up3) os ag
    obtain ⟨o3, v3, g3, z3, d3⟩ := fl.there
    have out : a ∉ frs (X.env :: X.outer) := fun hm => by obtain ⟨_, o', e', hn⟩ := fl.2.2.1.mem hm; rw [g3] at e'; cases e'; exact hn _ d3
    have nL : a ≠ X.env.locals := fun z => out (List.mem_filterMap.mpr ⟨X.env, List.mem_cons_self, by rw [fr, z]⟩)
    have nF : a ∉ X.fs := fun hm => by obtain ⟨e, he, q⟩ := List.mem_filterMap.mp hm; exact out (List.mem_filterMap.mpr ⟨e, List.mem_cons_of_mem _ he, q⟩)
    have S3 := J3.suite g3 d3 na nL nF
    have LT : PySem.W.Looks (model X.prog X.w) h3 (typeOf (.ref a)) cls := fun A Q E s k q => wpAny_typeOf_ref (k _ _ g3) (by rw [z3.1]; exact q)
    have look : ∀ {x : Str} {c : Value} {np : Pos} {Q E : Value → Shared → Prop}, Names X x c → Q c { s' with heap := h3 } → wpAny (model X.prog X.w) (X.A.mark (some (.ref a))) (eval (.Name x np) X.env) Q E { s' with heap := h3 } := fun {x c np Q E} hc q => by
      obtain ⟨hg, db, hm | ⟨hm, hv, nn⟩⟩ := hc
      · exact ld_glob (X := X.suite a ((a, o3) :: (X.pn ++ pins))) S3 hg hm q db
      · exact ld_blt (X := X.suite a ((a, o3) :: (X.pn ++ pins))) S3 hg hm hv q nn db
    have go : ∀ {hd : List ExceptHandler} {l' : List Hd3}, HdsMix X hd l' → wMix X.K W D l' cls d σ' H' → wpAny (model X.prog X.w) X.A (handleBy (.ref a) X.env hd) (SP X pins D) X.xe { s' with heap := h3 } := by
      intro hd l' hk
      induction hk with
      | nil =>
        intro w
        obtain ⟨_, _, _, oe, vs, T, oT, t2, he, hz, hd1, hT, _⟩ := id fl
        refine wpAny_handleBy_nil ?_
        unfold PySem.passOn
        refine wpAny_bind (wpAny_field he hd1 hT ?_)
        rw [if_neg (show ¬ ((Value.ref T == Value.none) = true) by simp)]
        have fin : wpAny (model X.prog X.w) X.A (setFlight (.ref a) X.env.frame) (fun _ s4 => wpAny (model X.prog X.w) X.A (throw (.ref a) : Sem Flow) (SP X pins D) X.xe s4) X.xe { s' with heap := h3 } := by
          rw [fr]; refine HandSPX.setFlight_upZ fl fun h4 hh4 up4 => wpAny_throw (tk _ _ ?_)
          exact ⟨a, B, sI, pins, σ', H', cls, d, rfl, J, nb, (up.trans up3).trans up4, .inr (.inr (by rw [st]; exact hh4)), na, os, ag, w⟩
        first | exact wpAny_bind (wpAny_pure (wpAny_bind fin)) | exact wpAny_bind fin
      | @bare x c ts b su np q hd2 l2 hc hsu r ih =>
        rintro ⟨y, hy, yes, no⟩
        refine wpAny_handleBy_cons (codeAny_handlers_test ?_) (by intro z; cases z)
        refine look hc ((PySem.W.exm_one (M := model X.prog X.w) J3.kIn LT hy).here ?_)
        cases y with
        | false => exact ih (no rfl)
        | true =>
          refine codeAny_handlers_suite (HandSPX.lands_againZ fl fun h4 fl4 up4 => ?_)
          have J4 : Inv X pins σ' H' { s' with heap := h4 } := J.landed nb fl4.1 ((up.trans up3).trans up4) os ag
          obtain ⟨o4, v4, g4, z4, d4⟩ := fl4.there
          refine wpAny_mono ((hsu a o4 cls d (X.pn ++ pins) z4 ⟨_, d4⟩).run [] _ _ H' _ (J4.suite g4 d4 na nL nF) (yes rfl a na)) (fun f s6 hsp => ?_) (fun _ _ z => False.elim z)
          cases f with
          | ret u => obtain ⟨v6, σ6, H6, S6, r6, q6⟩ := hsp; exact ⟨_, _, _, S6.unsuite io, r6, q6⟩
          | _ => obtain ⟨σ6, H6, S6, q6⟩ := hsp; exact ⟨_, _, S6.unsuite io, q6⟩
      | @named x n i c ts b su np q hd2 l2 hc hi hl hsu r ih =>
        rintro ⟨y, hy, yes, no⟩
        refine wpAny_handleBy_cons (codeAny_handlers_test ?_) (by intro z; cases z)
        refine look hc ((PySem.W.exm_one (M := model X.prog X.w) J3.kIn LT hy).here ?_)
        cases y with
        | false => exact ih (no rfl)
        | true =>
          refine codeAny_handlers_suite_as (HandSPX.lands_againZ fl fun h4 fl4 up4 => ?_)
          have J4 : Inv X pins σ' H' { s' with heap := h4 } := J.landed nb fl4.1 ((up.trans up3).trans up4) os ag
          obtain ⟨o4, v4, g4, z4, d4⟩ := fl4.there
          refine store_ok (X := X.suite a ((a, o4) :: (X.pn ++ pins))) (v := .ref a) (J4.suite g4 d4 na nL nF) nd hi (.inl hl) rfl (fun s5 S5 => ?_) (.inr hl)
          refine wpAny_mono ((hsu a o4 cls d (X.pn ++ pins) z4 ⟨_, d4⟩).run [] s5 _ H' _ S5 (yes rfl a na)) (fun f s6 hsp => ?_) (fun _ _ z => False.elim z)
          have gone : ∀ {σ6 : L2.St} {H6 : Hp} {Q : Shared → Prop}, Inv (X.suite a ((a, o4) :: (X.pn ++ pins))) [] σ6 H6 s6 → (∀ s7, Inv X pins (σ6.set i none) H6 s7 → Q s7) → wpAny (model X.prog X.w) X.A (do bindName X.env n .none; unbindBehindTheSuite X.env n q) (fun _ s7 => Q s7) X.xe s6 := fun S6 hq => gone_ok (S6.unsuite io) nd hi hl hq
          cases f with
          | ret u => obtain ⟨v6, σ6, H6, S6, r6, q6⟩ := hsp; exact gone S6 fun s7 J7 => ⟨_, _, _, J7, r6, q6⟩
          | _ => obtain ⟨σ6, H6, S6, q6⟩ := hsp; exact gone S6 fun s7 J7 => ⟨_, _, J7, q6⟩
    exact go ok3 w
  · intro f s1 hsp
    cases f with
    | next => obtain ⟨σ', H', J', q⟩ := hsp; exact wpAny_execs_nil ⟨σ', H', J'.ofTry io, q⟩
    | ret u => obtain ⟨v, σ', H', J', r, q⟩ := hsp; exact ⟨v, σ', H', J'.ofTry io, r, q⟩
    | _ => obtain ⟨σ', H', J', q⟩ := hsp; exact ⟨σ', H', J'.ofTry io, q⟩
/-! ### the mirror -/
abbrev Cl3 := List (Str × Bool) × Option Nat × (Str → FS)
def sHds : List Cl3 → Str → FS
  | [], c, s, μ => .ex c s μ
  | (tab, oi, ms) :: l, c, s, μ => match tab.lookup c with
    | none => .bad
    | some false => sHds l c s μ
    | some true => match oi with
      | none => ms c s μ
      | some i => if i < s.length then hideO i (ms c (s.set i none) μ) else .bad
def sTryM (l : List Cl3) (b : FS) : FS := fun s μ => match b s μ with
  | .ex c s1 μ1 => sHds l c s1 μ1
  | o => o
section
variable {X : Cx} {W : WX} {k : Nat}
def tsM (X : Cx) (su : List Stmt) (p : Addr) (t : Value) (d : Option Addr) : TS := fun D σ H => ∀ oe pn, Zc t d oe → (∃ vs, oe.data = .fields vs) → WSs (X.suite p ((p, oe) :: pn)) su D σ H
theorem tsM_ok {su : List Stmt} : SuOk X su (tsM X su) := fun p oe t d pn hz hf => ⟨fun pins s σ H D I h => pss_w.run pins s σ H D I (h oe pn hz hf)⟩
inductive MOk (X : Cx) (W : WX) : List ExceptHandler → List Cl3 → List Hd3 → Prop
  | nil : MOk X W [] [] []
  | bare {x : Str} {C : Addr} {b : Stmt} {su : List Stmt} {np q : Pos} {tab : List (Str × Bool)} {ms : FS} {hds : List ExceptHandler} {l : List Cl3} {L : List Hd3} : X.mg x = some (.ref C) → Gl X x → (x == ("__debug__" : Str)) = false → (∀ q ∈ tab, Exm X.K X.mg q.1 x q.2) →
      (∀ (a : Addr) (oe : Obj) (cls : Value) (d : Option Addr) (pn : List (Addr × Obj)), Zc cls d oe → (∃ vs, oe.data = .fields vs) → CSs (X.suite a ((a, oe) :: pn)) W (b :: su) ms) → MOk X W hds l L →
      MOk X W (.ExceptHandler (some (.Name x np)) none (b :: su) q :: hds) ((tab, none, fun _ => ms) :: l) ((.ref C, none, tsM X (b :: su)) :: L)
  | named {x n : Str} {i : Nat} {C : Addr} {b : Stmt} {su : List Stmt} {np q : Pos} {tab : List (Str × Bool)} {ms : Str → FS} {hds : List ExceptHandler} {l : List Cl3} {L : List Hd3} : X.mg x = some (.ref C) → Gl X x → (x == ("__debug__" : Str)) = false → X.N[i]? = some n → X.env.kindOf n = some .local → (∀ q ∈ tab, Exm X.K X.mg q.1 x q.2) →
      (∀ (c : Str) (C a : Addr) (oe : Obj) (pn : List (Addr × Obj)), (c, true) ∈ tab → X.mg c = some (.ref C) → Zc (.ref C) none oe → (∃ vs, oe.data = .fields vs) → CSsat (X.suite a ((a, oe) :: pn)) W i a (b :: su) (ms c)) → MOk X W hds l L →
      MOk X W (.ExceptHandler (some (.Name x np)) (some n) (b :: su) q :: hds) ((tab, some i, ms) :: l) ((.ref C, some i, tsM X (b :: su)) :: L)
theorem MOk.hds {hds : List ExceptHandler} {l : List Cl3} {L : List Hd3} (m : MOk X W hds l L) : HdsMix X hds L := by
  induction m with
  | nil => exact .nil
  | bare h1 h2 h3 h4 h5 r ih => exact .bare ⟨h2, h3, .inl h1⟩ tsM_ok ih
  | named h1 h2 h3 h4 h5 h6 h7 r ih => exact .named ⟨h2, h3, .inl h1⟩ h4 h5 tsM_ok ih
theorem MOk.run {D : Ends} {cls : Value} {ρ : List Addr} {H : Hp} {σ : L2.St} {c : Str} {s : Slots} {μ : Mem} (hs : RepS X.K H ρ s σ) (hm : RepM X.K H ρ μ) (em : X.mg c = some cls) {hds : List ExceptHandler} {l : List Cl3} {L : List Hd3} (m : MOk X W hds l L)
    (h : PostS X W ρ H (sHds l c s μ) D) : wMix X.K W D L cls none σ H := by
  have pick : ∀ {x : Str} {C : Addr} {tab : List (Str × Bool)} {y : Bool}, X.mg x = some (.ref C) → (∀ q ∈ tab, Exm X.K X.mg q.1 x q.2) → tab.lookup c = some y → PySem.W.exmOne X.K cls (.ref C) = some y ∧ ∃ A, cls = .ref A := fun {x C tab y} h1 ht hl => by
    obtain ⟨Cx, Cy, e1, e2, e3⟩ := ht (c, y) (lookup_mem hl)
    simp only at e1 e2 e3
    rw [em] at e1
    cases e1
    rw [h1] at e2
    cases e2
    exact ⟨e3, Cx, rfl⟩
  induction m with
  | nil => exact h cls σ H ρ (Stp.refl hm) hs em
  | @bare x C b su np q tab ms hds l L h1 h2 h3 h4 h5 r ih =>
    unfold sHds at h
    cases hl : tab.lookup c with
    | none => rw [hl] at h; exact h.elim
    | some y =>
      rw [hl] at h
      obtain ⟨e, _⟩ := pick h1 h4 hl
      refine ⟨y, e, ?_, ?_⟩
      · rintro rfl a ha oe pn hz hf
        exact h5 a oe cls none pn hz hf ρ μ s σ H D hs hm h
      · rintro rfl
        exact ih h
  | @named x n i C b su np q tab ms hds l L h1 h2 h3 h4 h5 h6 h7 r ih =>
    unfold sHds at h
    cases hl : tab.lookup c with
    | none => rw [hl] at h; exact h.elim
    | some y =>
      rw [hl] at h
      obtain ⟨e, A, eA⟩ := pick h1 h6 hl
      subst eA
      refine ⟨y, e, ?_, ?_⟩
      · rintro rfl a ha oe pn hz hf
        simp only at h
        split at h
        · rename_i hlt
          exact cs_tryG_end (h7 c A a oe pn (lookup_mem hl) em hz hf) hlt hs (Stp.refl hm) h
        · exact h.elim
      · rintro rfl
        exact ih h
theorem cs_tryM {body : List Stmt} {h0 : ExceptHandler} {hds : List ExceptHandler} {pos : Pos} {mb : FS} {l : List Cl3} (G : Good X W k) (hN : X.N.Nodup)
    (hb : ∀ (W' : WX) (pn : List (Addr × Obj)) (xe : Value → Shared → Prop), Good (X.tr pn xe) W' k → CSs (X.tr pn xe) W' body mb) (ok : ∃ L, MOk X W (h0 :: hds) l L)
    (hst : X.stack = X.env :: X.outer := by rfl) (hfr : X.env.frame = some X.env.locals := by rfl) : CS X W (.Try body (h0 :: hds) [] [] pos) (sTryM l mb) := by
  obtain ⟨L, m⟩ := ok
  intro ρ μ s σ H D hs hm h
  refine ⟨_, ps_try_mix hst hfr hN (W := W) (l := L) (tb := fun W' D σ H => ∀ pn xe, Takes (X.tr pn xe) W' → PassesOwn (model X.prog X.w) X.A X.env xe → WSs (X.tr pn xe) body D σ H) G.tk (fun W' pn xe tk' po => ⟨fun pins s σ H D I h => pss_w.run pins s σ H D I (h pn xe tk' po)⟩) m.hds, ?_⟩
  intro pn xe tk' po
  refine hb _ pn xe (G.tr tk' po) ρ μ s σ H D hs hm ?_
  unfold sTryM at h
  cases eb : mb s μ with
  | ex c' s1 m1 =>
    rw [eb] at h
    intro cls σ' H' ρ' t r em
    exact MOk.run (X := X) r t.mem em m (PostS.from (X := X) t h)
  | _ => rw [eb] at h; exact h
theorem mk_nil : ∃ L, MOk X W [] [] L := ⟨_, .nil⟩
theorem mk_bare {x : Str} {b : Stmt} {su : List Stmt} {np q : Pos} {tab : List (Str × Bool)} {ms : FS} {hds : List ExceptHandler} {l : List Cl3} (hx : Exn X.K X.mg x) (hg : Gl X x) (ht : ∀ q ∈ tab, Exm X.K X.mg q.1 x q.2)
    (hsu : ∀ (a : Addr) (oe : Obj) (cls : Value) (d : Option Addr) (pn : List (Addr × Obj)), Zc cls d oe → (∃ vs, oe.data = .fields vs) → CSs (X.suite a ((a, oe) :: pn)) W (b :: su) ms) (r : ∃ L, MOk X W hds l L) (hdb : (x == ("__debug__" : Str)) = false := by decide) :
    ∃ L, MOk X W (.ExceptHandler (some (.Name x np)) none (b :: su) q :: hds) ((tab, none, fun _ => ms) :: l) L := by
  obtain ⟨C, h1, _⟩ := hx
  obtain ⟨L, m⟩ := r
  exact ⟨_, .bare h1 hg hdb ht hsu m⟩
theorem mk_named {x n : Str} {i : Nat} {b : Stmt} {su : List Stmt} {np q : Pos} {tab : List (Str × Bool)} {ms : Str → FS} {hds : List ExceptHandler} {l : List Cl3} (hi : X.N[i]? = some n) (hl : X.env.kindOf n = some .local) (hx : Exn X.K X.mg x) (hg : Gl X x) (ht : ∀ q ∈ tab, Exm X.K X.mg q.1 x q.2)
    (hsu : ∀ (c : Str) (C a : Addr) (oe : Obj) (pn : List (Addr × Obj)), (c, true) ∈ tab → X.mg c = some (.ref C) → Zc (.ref C) none oe → (∃ vs, oe.data = .fields vs) → CSsat (X.suite a ((a, oe) :: pn)) W i a (b :: su) (ms c)) (r : ∃ L, MOk X W hds l L) (hdb : (x == ("__debug__" : Str)) = false := by decide) :
    ∃ L, MOk X W (.ExceptHandler (some (.Name x np)) (some n) (b :: su) q :: hds) ((tab, some i, ms) :: l) L := by
  obtain ⟨C, h1, _⟩ := hx
  obtain ⟨L, m⟩ := r
  exact ⟨_, .named h1 hg hdb hi hl ht hsu m⟩
end
end Dg
/-! Du: dict comprehensions whose keys are ints or texts; a subscript in a suite that asks the caught error. -/
namespace Dg
open PySem PySem.Spec PyProof.Rows L2
section
variable {X : Cx} {W : WX} {i : Nat} {a : Addr}
def ixQ (u w : U) (μ : Mem) : Res U := match dctU μ u with
  | none => ixU u w μ
  | some _ => .bad
theorem at_sub {e b : Expr} {ma mb : FE} {pos : Pos} (ha : CEat X W i a e ma) (hb : CEat X W i a b mb) (hp : PlainIx b := by exact fun _ _ => rfl) : CEat X W i a (.Subscript e b pos) (fOp ixQ ma mb) := by
  intro ρ μ s σ H Q hi hs hm h
  refine ⟨_, pe_ix ix_w pe_w pe_w hp, ?_⟩
  refine ha ρ μ s σ H _ hi hs hm (h.bind fun u μ1 x H1 ρ1 t1 r1 h1 => ?_)
  refine hb ρ1 μ1 s σ H1 _ hi (t1.s hs) t1.mem (h1.bind fun w μ2 y H2 ρ2 t2 r2 h2 => ?_)
  unfold ixQ at h2
  cases hd : dctU μ2 u with
  | some k => rw [hd] at h2; exact h2.elim
  | none => rw [hd] at h2; exact ix_ok t2.mem (t2.v r1) r2 hd h2
end
section
variable {X : Cx} {W W0 : WX} {k : Nat}
def dkGo (j : IterU) (own : List Nat) (g : Tgt) (t : FT) (kk e : FE) (s : Slots) (D : Nat) : Nat → Nat → Mem → Res U
  | 0, _, _ => .bad
  | f + 1, i, μ => match itemAt j i μ with
    | none => .bad
    | some none => .ok (.ref D) μ
    | some (some u) => match setT g u (wipeU s own) with
      | none => .bad
      | some s1 => match t s1 μ with
        | .ok true μ3 => match kk s1 μ3 with
          | .ok kv μ4 => match e s1 μ4 with
            | .ok v μ5 => match μ5[D]? with
              | some (.dct acc) => match keyU kv with
                | some ky => if acc.length < lim then dkGo j own g t kk e s D f (i + 1) (μ5.set D (.dct (putU acc ky v))) else .bad
                | none => .bad
              | _ => .bad
            | _ => .bad
          | _ => .bad
        | .ok false μ3 => dkGo j own g t kk e s D f (i + 1) μ3
        | _ => .bad
def fDcK (it : FI) (own : List Nat) (g : Tgt) (t : FT) (kk e : FE) : FE := fun s μ => (it s μ).bind fun j μ1 => dkGo j own g t kk e s μ1.length fuelF 0 (μ1 ++ [.dct []])
theorem dcK_reads {tg iter : Expr} {ifs : List Expr} {kx vx : Expr} {scope : Scope} {own : List Nat} {mi : FI} {g : Tgt} {t : FT} {kk e : FE} (hi : CI X W tg iter mi)
    (hg : ∀ s H0 C cl fp, CG (X.blk s H0 scope (compEnvC scope cl C X.env) fp) tg g) (ht : ∀ s H0 C cl fp, CTs (X.blk s H0 scope (compEnvC scope cl C X.env) fp) W0 ifs t)
    (hk : ∀ s H0 C cl fp, CE (X.blk s H0 scope (compEnvC scope cl C X.env) fp) W0 kx kk) (he : ∀ s H0 C cl fp, CE (X.blk s H0 scope (compEnvC scope cl C X.env) fp) W0 vx e) (hsub : subT g own = true)
    {ρ : List Addr} {μ : Mem} {s : Slots} {σ : L2.St} {H : Hp} {Q : VK} (hs : RepS X.K H ρ s σ) (hm : RepM X.K H ρ μ) (h : Post X W σ relV ρ H (fDcK mi own g t kk e s μ) Q) :
    tDc (WI X tg iter) (WGb X scope tg) (WTb X scope ifs) (WEb X scope kx) (WEb X scope vx) own σ H Q := by
  refine hi ρ μ s σ H _ hs hm (h.bind fun j μ1 J H1 ρ1 t1 r1 h1 => ?_)
  intro D hD
  have hJ : ItOk X.K ρ1 H1 j J := r1
  have tD : Stp X.K ρ1 H1 (ρ1 ++ [D]) (upd H1 D (.dK [])) (μ1 ++ [.dct []]) := newD t1.mem hD (RepKV.nil (K := X.K) (H := H1) (ρ := ρ1))
  refine ⟨fun i m H' => ∃ ρ' μ', Stp X.K (ρ1 ++ [D]) (upd H1 D (.dK [])) ρ' H' μ' ∧ Post X W σ relV ρ' H' (dkGo j own g t kk e s μ1.length m i μ') Q, ⟨fuelF, ρ1 ++ [D], μ1 ++ [.dct []], Stp.refl tD.mem, h1.into tD⟩, ?_⟩
  intro i m H' ⟨ρ', μ', t', h'⟩
  have hDr : ρ'[μ1.length]? = some D := t'.ext.get (by rw [← t1.mem.len, List.getElem?_append_right (Nat.le_refl _)]; simp)
  cases m with
  | zero => exact h'.elim
  | succ m =>
    have q := hJ i ρ' H' μ' (tD.ext.trans t'.ext) (tD.tx.trans t'.tx) t'.mem
    unfold dkGo at h'
    cases e0 : itemAt j i μ' with
    | none => rw [e0] at h'; exact h'.elim
    | some o =>
      rw [e0] at h' q
      cases o with
      | none => exact .inl ⟨q, h'.ok (Stp.refl t'.mem) (.ref hDr)⟩
      | some u =>
        refine .inr ⟨q.1, fun H2 => ∃ ρ2 μ2, Stp X.K (ρ1 ++ [D]) (upd H1 D (.dK [])) ρ2 H2 μ2 ∧ Post X W σ relV ρ2 H2 (dkGo j own g t kk e s μ1.length m (i + 1) μ2) Q, fun H2 z => ⟨m, Nat.lt_succ_self m, z⟩, fun x H'' y => ?_⟩
        obtain ⟨t2, ru⟩ := q.2 x H'' y
        simp only at h'
        have hsw : RepS X.K H'' ρ' (wipeU s own) (wipe σ own) := (t2.s (t'.s (tD.s (t1.s hs)))).wipe own
        cases es : setT g u (wipeU s own) with
        | none => rw [es] at h'; exact h'.elim
        | some s1 =>
          rw [es] at h'
          simp only at h'
          intro s0 H0 C cl fp
          refine hg s0 H0 C cl fp ρ' (wipeU s own) (wipe σ own) H'' u x s1 _ hsw ru es fun σ3 hs3 hw => ⟨?_, ?_⟩
          · have := hw own (subT_ok hsub)
            rw [this]
            exact wipe_wipe fun i hi => hi
          · intro s0' H0' C' cl' fp'
            refine ht s0' H0' C' cl' fp' ρ' μ' s1 σ3 H'' _ hs3 t2.mem ?_
            cases et : t s1 μ' with
            | ex c m2 => rw [et] at h'; exact h'.elim
            | bad => rw [et] at h'; exact h'.elim
            | ok b μ3 =>
              rw [et] at h'
              intro b' H4 ρ4 t4 r4
              cases r4
              cases b with
              | false => exact iteF ⟨ρ4, μ3, (t'.trans t2).trans t4, Post.into (t2.trans t4) h'⟩
              | true =>
                refine iteT ?_
                intro s0' H0' C' cl' fp'
                refine hk s0' H0' C' cl' fp' ρ4 μ3 s1 σ3 H4 _ (t4.s hs3) t4.mem ?_
                simp only at h'
                cases ekk : kk s1 μ3 with
                | ex c m2 => rw [ekk] at h'; exact h'.elim
                | bad => rw [ekk] at h'; exact h'.elim
                | ok kv μ4 =>
                  rw [ekk] at h'
                  simp only at h'
                  intro yk H5 ρ5 t5 r5
                  intro s0' H0' C' cl' fp'
                  refine he s0' H0' C' cl' fp' ρ5 μ4 s1 σ3 H5 _ (t5.s (t4.s hs3)) t5.mem ?_
                  cases ee : e s1 μ4 with
                  | ex c m2 => rw [ee] at h'; exact h'.elim
                  | bad => rw [ee] at h'; exact h'.elim
                  | ok v μ5 =>
                    rw [ee] at h'
                    simp only at h'
                    intro w H6 ρ6 t6 r6
                    split at h'
                    · rename_i acc em
                      split at h'
                      · rename_i ky ek
                        split at h'
                        · rename_i hz
                          have hD6 : ρ6[μ1.length]? = some D := t6.ext.get (t5.ext.get (t4.ext.get (t2.ext.get hDr)))
                          obtain ⟨kvs, q6, rr⟩ := dct_of t6.mem hD6 em
                          have t7 := putD t6.mem hD6 em (RepKV.put (k := ky) r6 rr)
                          exact ⟨kvs, ky, keyU_ok (t6.v r5) ek, q6, by rw [rr.length]; exact lim_lt hz, ρ6, _, ((((t'.trans t2).trans t4).trans t5).trans t6).trans t7, Post.into ((((t2.trans t4).trans t5).trans t6).trans t7) h'⟩
                        · exact h'.elim
                      · exact h'.elim
                    · exact h'.elim
/-- y = {k: v for ..}, keys ints or texts -/
theorem ps_setDc {i : Nat} {y : Str} {py spos : Pos} {kx vx tg iter : Expr} {ifs : List Expr} {scope : Scope} {own : List (Str × Nat)} {pos : Pos} {wi : TI} {g : TG} {tt : TT} {tk tv : TE} (hc : X.calm = true) (hN : X.N.Nodup) (hy : X.N[i]? = some y)
    (hyl : X.env.scope.names.lookup y = some .local) (hsw : swapsWith (.DictComp kx vx [⟨tg, iter, ifs, 0⟩] scope pos) (some (.Name y py)) spos.line X.env = pure true) (hi : PI X tg iter wi) (ok : BlkOk X.N X.env.scope scope own)
    (hg : ∀ s H C cl fp, PG (X.blk s H scope (compEnvC scope cl C X.env) fp) tg g) (ht : ∀ s H C cl fp, PTs (X.blk s H scope (compEnvC scope cl C X.env) fp) ifs tt) (hk : ∀ s H C cl fp, PE (X.blk s H scope (compEnvC scope cl C X.env) fp) kx tk)
    (hv : ∀ s H C cl fp, PE (X.blk s H scope (compEnvC scope cl C X.env) fp) vx tv) (hs0 : ∀ x, foldedSetIterable iter X.env x = pure x := by intro _; rfl) :
    PS X (.Assign [.Name y py] (.DictComp kx vx [⟨tg, iter, ifs, 0⟩] scope pos) spos) (tAsg (tDc wi g tt tk tv (own.map (·.2))) (gName i)) := by
  refine ⟨fun pins s σ H D I h => ?_⟩
  rw [exec_Assign_Name_used _ _ _ _ hsw]
  refine wpAny_bind (wpAny_standAt (wpAny_bind ?_))
  show wpAny _ X.A (do let _ ← comprehension (.DictComp kx vx [⟨tg, iter, ifs, 0⟩] scope pos) scope X.env (firstIterPos [⟨tg, iter, ifs, 0⟩] pos) newDict false (eval iter X.env) (some (assign (.Name y py) X.env))) _ _ s
  have h' : tDc wi g tt tk tv (own.map (·.2)) σ H (fun x H1 => gName i x σ H1 D.nx) := h
  refine wpAny_bind (thn (dc_core (Qf := fun _ s' => SP X pins D .next s') hc hN I hi ok hg ht hk hv hs0 h' fun L C s' m H' I' q hn f => ?_) fun _ s' z => wpAny_pure (wpAny_pure z))
  show wpAny _ _ (assign (.Name y py) X.env (.ref L)) _ _ _
  refine wpAny_assign_Name (store_ok2 (v := V.ref L) I' hN hy (.inl hyl) rfl (fun s2 I2 ⟨a, sb, ha⟩ => ?_) (.inr hyl))
  obtain ⟨c0, c1, c2, c3, c4, c5⟩ := f
  have ne : C ≠ a := ha.elim (fun z => by rw [z]; exact c1) fun z e => c4 y a z e.symm
  exact ⟨m, hn.sameBut sb ne, fun h3 sb3 => ⟨_, H', I2.turned (t' := s2.toks) (fun b o hb e => (sb3.2 b hb).trans e) c0 c1 c3 c4 c5, q⟩⟩
theorem ce_dcK {tg iter : Expr} {ifs : List Expr} {kx vx : Expr} {scope : Scope} {own : List (Str × Nat)} {pos : Pos} {mi : FI} {g : Tgt} {t : FT} {kk e : FE} (G : Good X W (k + 40)) (hN : X.N.Nodup) (ok : BlkOk X.N X.env.scope scope own) (hi : CI X W tg iter mi)
    (hg : ∀ s H0 C cl fp, CG (X.blk s H0 scope (compEnvC scope cl C X.env) fp) tg g) (ht : ∀ s H0 C cl fp, CTs (X.blk s H0 scope (compEnvC scope cl C X.env) fp) W0 ifs t)
    (hk : ∀ s H0 C cl fp, CE (X.blk s H0 scope (compEnvC scope cl C X.env) fp) W0 kx kk) (he : ∀ s H0 C cl fp, CE (X.blk s H0 scope (compEnvC scope cl C X.env) fp) W0 vx e) (hsub : subT g (own.map (·.2)) = true)
    (hs0 : ∀ x, foldedSetIterable iter X.env x = pure x := by intro _; rfl) : CE X W (.DictComp kx vx [⟨tg, iter, ifs, 0⟩] scope pos) (fDcK mi (own.map (·.2)) g t kk e) :=
  fun ρ μ s σ H Q hs hm h => ⟨_, pe_dc G.calm hN pi_w ok pg_wb pts_wb pe_wb pe_wb hs0, dcK_reads hi hg ht hk he hsub hs hm h⟩
theorem cs_setDcK {i : Nat} {y : Str} {py : Pos} {tg iter : Expr} {ifs : List Expr} {kx vx : Expr} {scope : Scope} {own : List (Str × Nat)} {pos spos : Pos} {mi : FI} {g : Tgt} {t : FT} {kk e : FE} (G : Good X W (k + 40)) (hN : X.N.Nodup) (hy : X.N[i]? = some y) (hyl : X.env.scope.names.lookup y = some .local)
    (hsw : swapsWith (.DictComp kx vx [⟨tg, iter, ifs, 0⟩] scope pos) (some (.Name y py)) spos.line X.env = pure true) (ok : BlkOk X.N X.env.scope scope own) (hi : CI X W tg iter mi)
    (hg : ∀ s H0 C cl fp, CG (X.blk s H0 scope (compEnvC scope cl C X.env) fp) tg g) (ht : ∀ s H0 C cl fp, CTs (X.blk s H0 scope (compEnvC scope cl C X.env) fp) W0 ifs t)
    (hk : ∀ s H0 C cl fp, CE (X.blk s H0 scope (compEnvC scope cl C X.env) fp) W0 kx kk) (he : ∀ s H0 C cl fp, CE (X.blk s H0 scope (compEnvC scope cl C X.env) fp) W0 vx e) (hsub : subT g (own.map (·.2)) = true)
    (hs0 : ∀ x, foldedSetIterable iter X.env x = pure x := by intro _; rfl) :
    CS X W (.Assign [.Name y py] (.DictComp kx vx [⟨tg, iter, ifs, 0⟩] scope pos) spos) (sAsg (.one i) (fDcK mi (own.map (·.2)) g t kk e)) := by
  intro ρ μ s σ H D hs hm h
  refine ⟨_, ps_setDc G.calm hN hy hyl hsw pi_w ok pg_wb pts_wb pe_wb pe_wb hs0, ?_⟩
  refine dcK_reads (W := W) hi hg ht hk he hsub hs hm ?_
  exact PostS.bind hs h fun u μ1 x H1 ρ1 t1 r1 h1 => h1 _ H1 ρ1 (Stp.refl t1.mem) ((t1.s hs).set r1)
end
end Dg
/-! Dq: a def of a class, by its body. -/
namespace Dg
open PySem PySem.Spec PyProof.Rows L2 RZ
/-- a statement of a class's body -/
def inCls (st : Stmt) (j : Nat) : Stmt := match st with
  | .ClassDef _ _ _ body _ _ _ _ _ _ _ => body.getD j (.Pass ⟨0, 0, 0, 0⟩)
  | _ => .Pass ⟨0, 0, 0, 0⟩
abbrev FnQ (K : PySem.W.Frag) (x q : Str) (st : Stmt) (f : Addr) (fd : FuncData) : Prop := FunD K x q (defArgs st) (defBody st) (defScope st) [] [] f fd
theorem defQ_ok {P : Program} {w : World} {K : PySem.W.Frag} {mg : Str → Option Value} {base : Heap} {x q : Str} {st : Stmt} {f : Addr} {fd : FuncData} {N ps : List Str} {k : Nat} {body : FS} (F : FnQ K x q st f fd) (S : FnScope N ps (defScope st))
    (hb : ∀ (cdv : Value) (A : Around) (outer : List Env) (s : Shared) (H : Hp) (E : XK), Good (cxOf (L2.CX P w) P w K mg base N q (defScope st) f cdv A outer s H E) (fun cls d _ H => E cls d H) k →
      CSs (cxOf (L2.CX P w) P w K mg base N q (defScope st) f cdv A outer s H E) (fun cls d _ H => E cls d H) (defBody st) body) :
    FnOk P w K mg base (L2.CX P w) (k + 1) f fd ps (spF K mg ps.length (runDef N.length body)) := by
  refine F.ok S (fun vs H Q E h => h.1) (fun cdv A outer s H vs Q E hr h => ?_)
  obtain ⟨hl, ρ, μ, us, r, hm, hq⟩ := h
  have G : Good (cxOf (L2.CX P w) P w K mg base N q (defScope st) f cdv A outer s H E) (fun cls d _ H => E cls d H) k := ⟨rfl, hr, takes_of rfl rfl rfl rfl, passes_of rfl⟩
  refine hb cdv A outer s H E G ρ μ _ _ H _ (RepS.start r) hm ?_
  unfold runDef at hq
  cases e : body (us.map some ++ List.replicate (N.length - us.length) none) μ with
  | nx s' m => rw [e] at hq; exact fun σ' H' ρ' t _ => hq _ H' ρ' t .non
  | rt u m => rw [e] at hq; exact fun v H' ρ' t r => hq v H' ρ' t r
  | bk s' m => rw [e] at hq; exact hq.elim
  | ct s' m => rw [e] at hq; exact hq.elim
  | ex c s' m => rw [e] at hq; exact fun cls σ' H' ρ' t _ eq => hq cls H' ρ' t eq
  | bad => rw [e] at hq; exact hq.elim
end Dg
/-! Do: instances of own classes: attributes, methods, construction. -/
namespace Dg
open PySem PySem.Spec PyProof.Rows L2 RZ
def isO (c : Str) (μ : Mem) : U → Option (List (Str × U))
  | .ref r => match μ[r]? with
    | some (.obj c' fs) => if c' = c then some fs else none
    | _ => none
  | _ => none
def putFU (f : Str) (v : U) : List (Str × U) → List (Str × U)
  | [] => [(f, v)]
  | (g, x) :: r => if g = f then (g, v) :: r else (g, x) :: putFU f v r
def noEx : Res U → Res U
  | .ok u μ => .ok u μ
  | _ => .bad
section
variable {K : PySem.W.Frag} {H : Hp} {ρ : List Addr} {μ : Mem}
theorem isO_ok {c : Str} {u : U} {x : V} {fs : List (Str × U)} (hm : RepM K H ρ μ) (r : RepV K H ρ u x) (e : isO c μ u = some fs) : ∃ i a dx fvs, u = .ref i ∧ ρ[i]? = some a ∧ μ[i]? = some (.obj c fs) ∧ x = .ref a ∧ H a = some (.ins (He.ga K c) dx fvs) ∧ fvs.map (·.1) = fs.map (·.1) ∧ RepVs K H ρ (fs.map (·.2)) (fvs.map (·.2)) := by
  unfold isO at e
  split at e
  · rename_i i
    cases h : μ[i]? with
    | none => rw [h] at e; cases e
    | some cl =>
      rw [h] at e
      cases cl with
      | obj c' fs' =>
        try simp only at e
        split at e
        · rename_i hc
          subst hc
          cases e
          cases r with
          | ref e2 =>
            obtain ⟨dx, fvs, a1, a2, a3⟩ := hm.get e2 h
            exact ⟨i, _, dx, fvs, rfl, e2, h, rfl, a1, a2, a3⟩
        · cases e
      | _ => cases e
  · cases e
theorem lookup_rep : ∀ {fs : List (Str × U)} {fvs : List (Str × V)} {f : Str} {u : U}, fvs.map (·.1) = fs.map (·.1) → RepVs K H ρ (fs.map (·.2)) (fvs.map (·.2)) → fs.lookup f = some u → ∃ v, fvs.lookup f = some v ∧ RepV K H ρ u v
  | [], _, _, _, _, _, h => by cases h
  | (g, w) :: fs, [], _, _, e, _, _ => by simp at e
  | (g, w) :: fs, (g', v) :: fvs, f, u, e, r, h => by
    simp only [List.map_cons, List.cons.injEq] at e
    obtain ⟨e1, e2⟩ := e
    cases r with
    | cons r1 r2 =>
      rw [List.lookup_cons] at h ⊢
      try simp only at e1
      rw [e1]
      split at h
      · cases h; exact ⟨_, rfl, r1⟩
      · exact lookup_rep e2 r2 h
theorem lookup_non : ∀ {fs : List (Str × U)} {fvs : List (Str × V)} {f : Str}, fvs.map (·.1) = fs.map (·.1) → fs.lookup f = none → fvs.lookup f = none
  | [], [], _, _, _ => rfl
  | [], _ :: _, _, e, _ => by simp at e
  | (g, w) :: fs, [], _, e, _ => by simp at e
  | (g, w) :: fs, (g', v) :: fvs, f, e, h => by
    simp only [List.map_cons, List.cons.injEq] at e
    obtain ⟨e1, e2⟩ := e
    rw [List.lookup_cons] at h ⊢
    try simp only at e1
    rw [e1]
    split at h
    · cases h
    · exact lookup_non e2 h
theorem put_rep : ∀ {fs : List (Str × U)} {fvs : List (Str × V)} {f : Str} {u : U} {v : V}, fvs.map (·.1) = fs.map (·.1) → RepVs K H ρ (fs.map (·.2)) (fvs.map (·.2)) → RepV K H ρ u v → (putF f v fvs).map (·.1) = (putFU f u fs).map (·.1) ∧ RepVs K H ρ ((putFU f u fs).map (·.2)) ((putF f v fvs).map (·.2))
  | [], [], _, _, _, _, _, r => ⟨rfl, .cons r .nil⟩
  | [], _ :: _, _, _, _, e, _, _ => by simp at e
  | (g, w) :: fs, [], _, _, _, e, _, _ => by simp at e
  | (g, w) :: fs, (g', x) :: fvs, f, u, v, e, r, rv => by
    simp only [List.map_cons, List.cons.injEq] at e
    obtain ⟨e1, e2⟩ := e
    cases r with
    | cons r1 r2 =>
      try simp only at e1
      subst e1
      unfold putF putFU
      split
      · exact ⟨by simp [e2], .cons rv r2⟩
      · obtain ⟨a, b⟩ := put_rep e2 r2 rv (f := f)
        exact ⟨by simp [a], .cons r1 b⟩
end
section
variable {X : Cx} {W : WX} {k : Nat}
/-! ### e.f -/
def gFld (c f : Str) (u : U) (μ : Mem) : Res U := match isO c μ u with
  | some fs => (match fs.lookup f with
    | some v => .ok v μ
    | none => .bad)
  | none => .bad
def fFld (c f : Str) (me : FE) : FE := fun s μ => (me s μ).bind fun u μ1 => gFld c f u μ1
theorem ce_fld {c f : Str} {e : Expr} {me : FE} {pos : Pos} (cl : Cls X.K (He.ga X.K c)) (na : NoAttr X.K (He.ga X.K c) f) (he : CE X W e me) (hb : attributeBase e f X.env (eval e X.env) = eval e X.env := by rfl) : CE X W (.Attribute e f pos) (fFld c f me) := by
  intro ρ μ s σ H Q hs hm h
  refine ⟨_, pe_fld pe_w hb, ?_⟩
  refine he ρ μ s σ H _ hs hm (h.bind fun u μ1 x H1 ρ1 t1 r1 h1 => ?_)
  unfold gFld at h1
  cases e1 : isO c μ1 u with
  | none => rw [e1] at h1; exact h1.elim
  | some fs =>
    rw [e1] at h1
    cases e2 : fs.lookup f with
    | none => simp only [e2] at h1; exact h1.elim
    | some w =>
      simp only [e2] at h1
      obtain ⟨i, a, dx, fvs, rfl, ha, hc, rfl, hH, hk, hv⟩ := isO_ok t1.mem r1 e1
      obtain ⟨v, l1, l2⟩ := lookup_rep hk hv e2
      exact ⟨a, _, dx, fvs, v, rfl, hH, cl, na, l1, h1 v H1 ρ1 (Stp.refl t1.mem) l2⟩
/-! ### e.f = v -/
def stO (c f : Str) (v u : U) (μ : Mem) : Option Mem := match isO c μ u, u with
  | some fs, .ref r => if fs.length < 1000 then some (μ.set r (.obj c (putFU f v fs))) else none
  | _, _ => none
def sFldS (c f : Str) (mo me : FE) : FS := fun s μ => ofR (me s μ) s fun v μ1 => ofR (mo s μ1) s fun u μ2 => match stO c f v u μ2 with
  | some μ3 => .nx s μ3
  | none => .bad
theorem cs_fld {c f : Str} {o e : Expr} {mo me : FE} {pos pos' : Pos} (cl : Cls X.K (He.ga X.K c)) (na : NoAttr X.K (He.ga X.K c) f) (ho : CE X W o mo) (he : CE X W e me) (hs0 : swapsWith e (some (.Attribute o f pos')) pos.line X.env = pure false := by rfl) : CS X W (.Assign [.Attribute o f pos'] e pos) (sFldS c f mo me) := by
  intro ρ μ s σ H D hs hm h
  refine ⟨_, ps_fld pe_w pe_w hs0, ?_⟩
  refine he ρ μ s σ H _ hs hm (PostS.bind hs h fun v μ1 y H1 ρ1 t1 r1 h1 => ?_)
  refine ho ρ1 μ1 s σ H1 _ (t1.s hs) t1.mem (PostS.bind (t1.s hs) h1 fun u μ2 x H2 ρ2 t2 r2 h2 => ?_)
  unfold stO at h2
  cases e1 : isO c μ2 u with
  | none => rw [e1] at h2; exact h2.elim
  | some fs =>
    obtain ⟨i, a, dx, fvs, rfl, ha, hc, rfl, hH, hk, hv⟩ := isO_ok t2.mem r2 e1
    rw [e1] at h2
    simp only at h2
    split at h2
    · rename_i μ3 e3
      split at e3
      · rename_i hl
        cases e3
        have hlen : fvs.length < 1000 := by
          have := congrArg List.length hk
          simp only [List.length_map] at this
          omega
        refine ⟨a, _, dx, fvs, rfl, hH, cl, na, hlen, ?_⟩
        have ry := t2.v r1
        obtain ⟨p1, p2⟩ := put_rep (f := f) hk hv ry
        have t : TX H2 (upd H2 a (.ins (He.ga X.K c) dx (putF f y fvs))) := (t2.mem.get ha hc).tx rfl
        have st := Stp.put t2.mem ha hc rfl (o := .ins (He.ga X.K c) dx (putF f y fvs)) (c := .obj c (putFU f v fs)) ⟨dx, _, upd_same, p1, p2.mono t (Ext.refl _)⟩
        exact h2 σ _ ρ2 st (st.s (t2.s (t1.s hs)))
      · cases e3
    · exact h2.elim
/-! ### o.m(e, ..) -/
theorem pass_no {X : Cx} : Passes (L2.CX X.prog X.w) X (fun _ _ _ => False) := fun _ _ _ _ _ _ _ h => by
  obtain ⟨_, _, _, _, _, _, _, _, _, _, _, _, z⟩ := h
  exact z.elim
theorem noEx_ok {r : Res U} {u : U} {m : Mem} (h : noEx r = .ok u m) : r = .ok u m := by
  cases r <;> first | exact h | cases h
def fMeth (c m : Str) (n : Nat) (g : List U → Mem → Res U) (mo : FE) (ma : FA) : FE := fun s μ => (mo s μ).bind fun u μ1 => match isO c μ1 u with
  | some fs => if (fs.lookup m).isNone = true then (ma s μ1).bind fun us μ2 => if us.length + 1 = n then noEx (g (u :: us) μ2) else .bad else .bad
  | none => .bad
theorem ce_meth {c m : Str} {f : Addr} {fd : FuncData} {ps : List Str} {g : List U → Mem → Res U} {o e : Expr} {es : List Expr} {mo : FE} {ma : FA} {apos pos : Pos} {j j2 : Nat} (G : Good X W j2) (F : FnOk X.prog X.w X.K X.mg X.base (L2.CX X.prog X.w) j f fd ps (spF X.K X.mg ps.length g))
    (ho : CE X W o mo) (ha : CA X W (e :: es) ma) (hp : ∀ {to : TE} {t : TA}, PE X o to → PA X (e :: es) t → PE X (.Call (.Attribute o m apos) (e :: es) [] pos) (tMeth (He.ga X.K c) m (spF X.K X.mg ps.length g) [] (fun _ _ _ => False) to t)) :
    CE X W (.Call (.Attribute o m apos) (e :: es) [] pos) (fMeth c m ps.length g mo ma) := by
  intro ρ μ s σ H Q hs hm h
  refine ⟨_, hp pe_w pa_w, ?_⟩
  refine ho ρ μ s σ H _ hs hm (h.bind fun u μ1 x H1 ρ1 t1 r1 h1 => ?_)
  cases e1 : isO c μ1 u with
  | none => rw [e1] at h1; exact h1.elim
  | some fs =>
    rw [e1] at h1
    simp only at h1
    split at h1
    · rename_i hl
      obtain ⟨i, a, dx, fvs, rfl, ha1, hc, rfl, hH, hk, hv⟩ := isO_ok t1.mem r1 e1
      refine ⟨a, dx, fvs, rfl, hH, lookup_non hk (Option.isNone_iff_eq_none.mp hl), ?_⟩
      refine ha ρ1 μ1 s σ H1 _ (t1.s hs) t1.mem (h1.bind fun us μ2 vs H2 ρ2 t2 r2 h2 => ?_)
      split at h2
      · rename_i hn
        cases hz : noEx (g (.ref i :: us) μ2) with
        | ok w μ3 =>
          rw [hz] at h2
          have hg := noEx_ok hz
          refine ⟨by rw [List.append_nil, List.length_cons, ← RepVs.length r2]; exact hn, ρ2, μ2, .ref i :: us, ?_, t2.mem, ?_⟩
          · rw [List.append_nil]; exact .cons (t2.v r1) r2
          · rw [hg]
            exact fun v H' ρ' t r => h2 v H' ρ' t r
        | ex c' m' => cases hq : g (.ref i :: us) μ2 <;> rw [hq] at hz <;> cases hz
        | bad => rw [hz] at h2; exact h2.elim
      · exact h2.elim
    · exact h1.elim
/-! ### C(e, ..) -/
def fMake (c : Str) (n : Nat) (g : List U → Mem → Res U) (ma : FA) : FE := fun s μ => (ma s μ).bind fun us μ1 => if us.length + 1 = n then
    match g (.ref μ1.length :: us) (μ1 ++ [.obj c []]) with
    | .ok .non μ2 => .ok (.ref μ1.length) μ2
    | _ => .bad
  else .bad
theorem ce_make {c : Str} {f : Addr} {fd : FuncData} {ps : List Str} {g : List U → Mem → Res U} {x : Str} {e : Expr} {es : List Expr} {ma : FA} {p pos : Pos} {j j2 : Nat} (G : Good X W j2) (F : FnOk X.prog X.w X.K X.mg X.base (L2.CX X.prog X.w) j f fd ps (spF X.K X.mg ps.length g))
    (ha : CA X W (e :: es) ma) (hp : ∀ {t : TA}, PA X (e :: es) t → PE X (.Call (.Name x p) (e :: es) [] pos) (tMake (He.ga X.K c) (spF X.K X.mg ps.length g) [] (fun _ _ _ => False) t)) :
    CE X W (.Call (.Name x p) (e :: es) [] pos) (fMake c ps.length g ma) := by
  intro ρ μ s σ H Q hs hm h
  refine ⟨_, hp pa_w, ?_⟩
  refine ha ρ μ s σ H _ hs hm (h.bind fun us μ1 vs H1 ρ1 t1 r1 h1 => ?_)
  intro x dx nx ndx nex
  split at h1
  · rename_i hn
    have s1 : Stp X.K ρ1 H1 ρ1 (upd H1 dx (.own x)) μ1 := Stp.temp t1.mem ndx
    have nx' : upd H1 dx (.own x) x = none := by rw [upd_ne (Ne.symm nex)]; exact nx
    have s2 : Stp X.K ρ1 (upd H1 dx (.own x)) (ρ1 ++ [x]) (upd (upd H1 dx (.own x)) x (.ins (He.ga X.K c) dx [])) (μ1 ++ [.obj c []]) := Stp.new s1.mem nx' ⟨dx, [], upd_same, rfl, .nil⟩
    have t := s1.trans s2
    have rr : RepV X.K (upd (upd H1 dx (.own x)) x (.ins (He.ga X.K c) dx [])) (ρ1 ++ [x]) (.ref μ1.length) (.ref x) := refN s1.mem
    refine ⟨by rw [List.append_nil, List.length_cons, ← RepVs.length r1]; exact hn, ρ1 ++ [x], _, .ref μ1.length :: us, ?_, t.mem, ?_⟩
    · rw [List.append_nil]; exact .cons rr (t.vs r1)
    · cases hz : g (.ref μ1.length :: us) (μ1 ++ [.obj c []]) with
      | ok w μ2 =>
        rw [hz] at h1
        cases w with
        | non =>
          intro v H' ρ' t' r'
          cases r'
          exact ⟨rfl, h1 (.ref x) H' ρ' (t.trans t') (t'.v rr)⟩
        | _ => exact h1.elim
      | ex c' m' => rw [hz] at h1; exact h1.elim
      | bad => rw [hz] at h1; exact h1.elim
  · exact h1.elim
end
end Dg
/-! De: a walk over enumerate(list); list(range(n)). -/
namespace Dg
open PySem PySem.Spec PyProof.Rows L2
theorem it_enum {K : PySem.W.Frag} {H : Hp} {ρ : List Addr} {r : Nat} {a : Addr} (hr : ρ[r]? = some a) : ItOk K ρ H (.enum r) (Ite K a) := by
  intro i ρ' H' μ' ex tx hm
  simp only [itemAt]
  cases e : listAt μ' r with
  | none => trivial
  | some us =>
    obtain ⟨vs, q, rr⟩ := listAt_ok hm (ex.get hr) e
    simp only [Option.map_some]
    cases h : us[i]? with
    | none =>
      simp only [Option.map_none]
      exact ⟨vs, q, by rw [← RepVs.length rr]; exact List.getElem?_eq_none_iff.mp h⟩
    | some u =>
      simp only [Option.map_some]
      obtain ⟨x, hx, rx⟩ := RepVs.get rr h
      refine ⟨⟨vs, x, q, hx⟩, ?_⟩
      rintro y H'' ⟨T, x', rfl, nT, rfl, hall⟩
      have e2 := hall vs q
      rw [hx] at e2
      cases e2
      exact ⟨Stp.temp hm nT, newT nT (.cons .int (.one rx))⟩
section
variable {X : Cx} {W : WX}
def iEnumU (a : FE) : FI := fun s μ => (a s μ).bind fun u μ1 => match u with
  | .ref r => match listAt μ1 r with
    | some _ => .ok (.enum r) μ1
    | none => .bad
  | _ => .bad
theorem ci_enum {tg a : Expr} {ma : FE} {p pos : Pos} (ha : CE X W a ma)
    (hp : ∀ {ta : TA}, PA X [a] ta → PI X tg (.Call (.Name "enumerate" p) [a] [] pos) (iEnum X.K ta)) (hs1 : starEach [a] X.env = (false, eval a X.env) :: starEach [] X.env := by rfl) :
    CI X W tg (.Call (.Name "enumerate" p) [a] [] pos) (iEnumU ma) := by
  intro ρ μ s σ H R hs hm h
  refine ⟨_, hp (pa_cons pe_w pa_nil hs1), ?_⟩
  refine ha ρ μ s σ H _ hs hm (h.bind fun u μ1 x H1 ρ1 t1 r1 h1 => ?_)
  split at h1
  · cases r1 with
    | ref b1 =>
      split at h1
      · rename_i e2
        obtain ⟨xs, q2, _⟩ := listAt_ok t1.mem b1 e2
        exact ⟨_, _, rfl, q2, h1.ok (Stp.refl t1.mem) (it_enum b1)⟩
      · exact h1.elim
  · exact h1.elim
/-- list(range(n)) -/
def fLrg (a : FE) : FE := fun s μ => (a s μ).bind fun u μ1 => match u with
  | .int n => if decide (0 ≤ n ∧ n ≤ 16777216) then .ok (.ref μ1.length) (μ1 ++ [.lst ((List.range n.toNat).map fun i => U.int (i : Nat))]) else .bad
  | _ => .bad
theorem rep_ints {K : PySem.W.Frag} {H : Hp} {ρ : List Addr} : ∀ xs : List Nat, RepVs K H ρ (xs.map fun i => U.int (i : Nat)) (xs.map fun i => V.int (0 + (i : Nat)))
  | [] => .nil
  | x :: xs => by
    rw [List.map_cons, List.map_cons, Int.zero_add]
    exact .cons .int (rep_ints xs)
theorem ce_lrg {a : Expr} {ma : FE} {p p2 pos pos2 : Pos} (ha : CE X W a ma)
    (hp : ∀ {ta : TE}, PE X a ta → PE X (.Call (.Name "list" p) [.Call (.Name "range" p2) [a] [] pos2] [] pos) (tLstRg (tRg1 ta))) : CE X W (.Call (.Name "list" p) [.Call (.Name "range" p2) [a] [] pos2] [] pos) (fLrg ma) := by
  intro ρ μ s σ H Q hs hm h
  refine ⟨_, hp pe_w, ?_⟩
  refine ha ρ μ s σ H _ hs hm (h.bind fun u μ1 x H1 ρ1 t1 r1 h1 => ?_)
  split at h1
  · rename_i n
    cases r1
    split at h1
    · rename_i hn
      obtain ⟨h3, h4⟩ := of_decide_eq_true hn
      refine ⟨n, rfl, .of_le (Int.le_refl _) h4 (by decide) h3, fun q nq => ?_⟩
      unfold rgV
      rw [Int.sub_zero]
      exact h1.ok (newL t1.mem nq (rep_ints _)) (refN t1.mem)
    · exact h1.elim
  · exact h1.elim
end
end Dg
/-! Dw: dicts whose keys are tuples of ints: locks, walks over the keys, displays. -/
namespace Dg
open PySem PySem.Spec PyProof.Rows L2
section
variable {X : Cx} {W : WX} {k : Nat}
def lkT : Cell → Option Cell
  | .dtt kus => some (.fdt kus)
  | _ => none
def ulT : Cell → Option Cell
  | .fdt kus => some (.dtt kus)
  | _ => none
def ulMT (r : Nat) (μ : Mem) : Option Mem := match μ[r]? with
  | some c => match ulT c with
    | some c' => some (μ.set r c')
    | none => none
  | none => none
def ulOT (r : Nat) (o : Out) : Out := match o with
  | .nx s μ => match ulMT r μ with
    | some μ' => .nx s μ'
    | none => .bad
  | .rt u μ => match ulMT r μ with
    | some μ' => .rt u μ'
    | none => .bad
  | .bk s μ => match ulMT r μ with
    | some μ' => .bk s μ'
    | none => .bad
  | .ct s μ => match ulMT r μ with
    | some μ' => .ct s μ'
    | none => .bad
  | .ex c s μ => .ex c s μ
  | .bad => .bad
/-- the statement, while the dict that e names is locked -/
def sLockT (e : FE) (b : FS) : FS := fun s μ => match e s μ with
  | .ok (.ref r) _ => match μ[r]? with
    | some c => match lkT c with
      | some c' => ulOT r (b s (μ.set r c'))
      | none => b s μ
    | none => b s μ
  | _ => b s μ
theorem ulMT_ok {K : PySem.W.Frag} {H H' : Hp} {ρ ρ' : List Addr} {μ' μ2 : Mem} {r : Nat} {d : Addr} {o : Obj} {u : HO} {kvs0 : Ti} (hu : u = TiD d kvs0) (h0 : H d = some u) (hr : ρ[r]? = some d)
    (t : Stp K ρ (upd H d (.frz o u)) ρ' H' μ') (h1 : H' d = some (.frz o u)) (e : ulMT r μ' = some μ2) : Stp K ρ H ρ' (upd H' d u) μ2 ∧ TV H' (upd H' d u) := by
  subst hu
  have tv : TV H' (upd H' d (TiD d kvs0)) := TV.unlock h1 (fun _ => by simp [TiD]) (fun _ => by simp [TiD])
  refine ⟨⟨t.ext, TX.across h0 (by simp [Sft, TiD]) t.tx h1 _, ?_⟩, tv⟩
  unfold ulMT at e
  cases ec : μ'[r]? with
  | none => rw [ec] at e; cases e
  | some c =>
    rw [ec] at e
    cases c with
    | fdt kus =>
      cases e
      obtain ⟨o', kvs, q1, q0, q2, q3⟩ := t.mem.get (t.ext.get hr) ec
      rw [h1] at q1
      obtain ⟨e1, e2⟩ := HO.frz.inj (Option.some.inj q1)
      rw [e2]
      rw [e2] at tv
      exact t.mem.putV tv (t.ext.get hr) ⟨_, upd_same, fun p hp => tv.seq (q0 p hp), q2, q3.monoV tv (Ext.refl _)⟩
    | _ => cases e
theorem cs_lockT {st : Stmt} {e : FE} {m : FS} (h : CS X W st m) : CS X W st (sLockT e m) := by
  intro ρ μ s σ H D hs hm p
  unfold sLockT at p
  have plain : PostS X W ρ H (m s μ) D → WS X st D σ H := h ρ μ s σ H D hs hm
  split at p
  · rename_i r μ1 _
    split at p
    · rename_i c ec
      split at p
      · rename_i c' el
        cases c with
        | dtt kus =>
          cases el
          have hlt : r < ρ.length := by rw [hm.len]; exact (List.getElem?_eq_some_iff.mp ec).1
          have hr : ρ[r]? = some ρ[r] := List.getElem?_eq_getElem hlt
          obtain ⟨kvs, q1, q0, q2, q3⟩ := hm.get hr ec
          refine ⟨_, ps_lock ps_w, ρ[r], TiD ρ[r] kvs, q1, trivial, fun od => ?_⟩
          have tv : TV H (upd H ρ[r] (.frz od (TiD ρ[r] kvs))) := TV.lock q1 (by simp [Sft, TiD])
          have hm' : RepM X.K (upd H ρ[r] (.frz od (TiD ρ[r] kvs))) ρ (μ.set r (.fdt kus)) := hm.putV tv hr ⟨od, kvs, upd_same, fun p hp => tv.seq (q0 p hp), q2, q3.monoV tv (Ext.refl _)⟩
          have hs' : RepS X.K (upd H ρ[r] (.frz od (TiD ρ[r] kvs))) ρ s σ := ⟨hs.len, fun i u e => by obtain ⟨v, a1, a2⟩ := hs.get i u e; exact ⟨v, a1, a2.monoV tv (Ext.refl _)⟩⟩
          refine h ρ (μ.set r (.fdt kus)) s σ _ _ hs' hm' ?_
          have frz : ∀ {ρ' H' μ'}, Stp X.K ρ (upd H ρ[r] (.frz od (TiD ρ[r] kvs))) ρ' H' μ' → H' ρ[r] = some (.frz od (TiD ρ[r] kvs)) := fun t => t.tx.2 _ _ _ upd_same
          cases eo : m s (μ.set r (.fdt kus)) with
          | nx s1 m1 =>
            rw [eo] at p
            intro σ' H' ρ' t rs
            refine ⟨frz t, ?_⟩
            simp only [ulOT] at p
            split at p
            · rename_i m2 e2
              obtain ⟨t2, tv2⟩ := ulMT_ok rfl q1 hr t (frz t) e2
              exact p σ' _ ρ' t2 ⟨rs.len, fun i u e => by obtain ⟨v, a1, a2⟩ := rs.get i u e; exact ⟨v, a1, a2.monoV tv2 (Ext.refl _)⟩⟩
            · exact p.elim
          | rt u m1 =>
            rw [eo] at p
            intro v H' ρ' t rv
            refine ⟨frz t, ?_⟩
            simp only [ulOT] at p
            split at p
            · rename_i m2 e2
              obtain ⟨t2, tv2⟩ := ulMT_ok rfl q1 hr t (frz t) e2
              exact p v _ ρ' t2 (rv.monoV tv2 (Ext.refl _))
            · exact p.elim
          | bk s1 m1 =>
            rw [eo] at p
            intro σ' H' ρ' t rs
            refine ⟨frz t, ?_⟩
            simp only [ulOT] at p
            split at p
            · rename_i m2 e2
              obtain ⟨t2, tv2⟩ := ulMT_ok rfl q1 hr t (frz t) e2
              exact p σ' _ ρ' t2 ⟨rs.len, fun i u e => by obtain ⟨v, a1, a2⟩ := rs.get i u e; exact ⟨v, a1, a2.monoV tv2 (Ext.refl _)⟩⟩
            · exact p.elim
          | ct s1 m1 =>
            rw [eo] at p
            intro σ' H' ρ' t rs
            refine ⟨frz t, ?_⟩
            simp only [ulOT] at p
            split at p
            · rename_i m2 e2
              obtain ⟨t2, tv2⟩ := ulMT_ok rfl q1 hr t (frz t) e2
              exact p σ' _ ρ' t2 ⟨rs.len, fun i u e => by obtain ⟨v, a1, a2⟩ := rs.get i u e; exact ⟨v, a1, a2.monoV tv2 (Ext.refl _)⟩⟩
            · exact p.elim
          | ex c2 s1 m1 =>
            rw [eo] at p
            intro cls σ' H' ρ' t rs em
            exact p cls σ' H' ρ' ⟨t.ext, TX.into q1 (by simp [Sft, TiD]) t.tx, t.mem⟩ rs em
          | bad => rw [eo] at p; exact p.elim
        | _ => cases el
      · exact plain p
    · exact plain p
  · exact plain p
/-- an expression, while the dict that e names is locked -/
def ulRT (r : Nat) (o : Res U) : Res U := match o with
  | .ok u μ => match ulMT r μ with
    | some μ' => .ok u μ'
    | none => .bad
  | .ex c μ => .ex c μ
  | .bad => .bad
def fLockT (e : FE) (b : FE) : FE := fun s μ => match e s μ with
  | .ok (.ref r) _ => match μ[r]? with
    | some c => match lkT c with
      | some c' => ulRT r (b s (μ.set r c'))
      | none => b s μ
    | none => b s μ
  | _ => b s μ
theorem ce_lockT {x : Expr} {e : FE} {m : FE} (h : CE X W x m) : CE X W x (fLockT e m) := by
  intro ρ μ s σ H Q hs hm p
  unfold fLockT at p
  have plain : Post X W σ relV ρ H (m s μ) Q → WE X x σ H Q := h ρ μ s σ H Q hs hm
  split at p
  · rename_i r μ1 _
    split at p
    · rename_i c ec
      split at p
      · rename_i c' el
        cases c with
        | dtt kus =>
          cases el
          have hlt : r < ρ.length := by rw [hm.len]; exact (List.getElem?_eq_some_iff.mp ec).1
          have hr : ρ[r]? = some ρ[r] := List.getElem?_eq_getElem hlt
          obtain ⟨kvs, q1, q0, q2, q3⟩ := hm.get hr ec
          refine ⟨_, pe_lock pe_w, ρ[r], TiD ρ[r] kvs, q1, trivial, fun od => ?_⟩
          have tv : TV H (upd H ρ[r] (.frz od (TiD ρ[r] kvs))) := TV.lock q1 (by simp [Sft, TiD])
          have hm' : RepM X.K (upd H ρ[r] (.frz od (TiD ρ[r] kvs))) ρ (μ.set r (.fdt kus)) := hm.putV tv hr ⟨od, kvs, upd_same, fun p hp => tv.seq (q0 p hp), q2, q3.monoV tv (Ext.refl _)⟩
          have hs' : RepS X.K (upd H ρ[r] (.frz od (TiD ρ[r] kvs))) ρ s σ := ⟨hs.len, fun i u e => by obtain ⟨v, a1, a2⟩ := hs.get i u e; exact ⟨v, a1, a2.monoV tv (Ext.refl _)⟩⟩
          refine h ρ (μ.set r (.fdt kus)) s σ _ _ hs' hm' ?_
          have frz : ∀ {ρ' H' μ'}, Stp X.K ρ (upd H ρ[r] (.frz od (TiD ρ[r] kvs))) ρ' H' μ' → H' ρ[r] = some (.frz od (TiD ρ[r] kvs)) := fun t => t.tx.2 _ _ _ upd_same
          cases eo : m s (μ.set r (.fdt kus)) with
          | ok u m1 =>
            rw [eo] at p
            intro v H' ρ' t rv
            refine ⟨frz t, ?_⟩
            simp only [ulRT] at p
            split at p
            · rename_i m2 e2
              obtain ⟨t2, tv2⟩ := ulMT_ok rfl q1 hr t (frz t) e2
              exact p v _ ρ' t2 (RepV.monoV tv2 (Ext.refl _) rv)
            · exact p.elim
          | ex c2 m1 =>
            rw [eo] at p
            intro cls H' ρ' t em
            exact p cls H' ρ' ⟨t.ext, TX.into q1 (by simp [Sft, TiD]) t.tx, t.mem⟩ em
          | bad => rw [eo] at p; exact p.elim
        | _ => cases el
      · exact plain p
    · exact plain p
  · exact plain p
/-! ### for k in d -/
theorem frzI {pins : List (Addr × Obj)} {σ : L2.St} {H : Hp} {s : Shared} {d : Addr} {o : Obj} {xs : Ti} (I : Inv X pins σ H s) (h : H d = some (.frz o (TiD d xs))) :
    (d == sysModules) = false ∧ s.heap.get? d = some o ∧ o.ExactDict ∧ ∃ (es : Array DictEntry) (ep : Nat), o.data = .dict es ep ∧ es.size = xs.length ∧
      ∀ (i : Nat) (p : List Int × Addr × V), xs[i]? = some p → ∃ en : DictEntry, es[i]? = some en ∧ en.key = .ref p.2.1 := by
  obtain ⟨hd, r, _, _⟩ := I.hok d _ h
  obtain ⟨hs, hl, _, ys, pr, o', es, ep, ho, hx, hdt, he⟩ := r
  rw [hd] at ho
  cases ho
  have l1 : es.size = ys.length := by
    have := congrArg List.length he
    simpa using this
  have l2 : xs.length = ys.length := Paired.length pr
  refine ⟨hs, hd, hx, es, ep, hdt, by omega, fun i p e => ?_⟩
  obtain ⟨b, hb, e1, e2, _⟩ := paired_get pr e
  have q : es.toList[i]? = some (tiE b) := by rw [he, List.getElem?_map, hb]; rfl
  rw [Array.getElem?_toList] at q
  exact ⟨_, q, by rw [e2]; rfl⟩
/-- the keys of the locked dict at d: each key's own tuple -/
def ItkI (d : Addr) (o : Obj) (xs : Ti) : It :=
  ⟨fun i H => H d = some (.frz o (TiD d xs)) ∧ i < xs.length, fun i H x H' => H' = H ∧ ∃ p, xs[i]? = some p ∧ x = .ref p.2.1, fun i H => H d = some (.frz o (TiD d xs)) ∧ xs.length ≤ i⟩
theorem turn_keysI {P : Program} {w : World} {K : PySem.W.Frag} {tg : Expr} {d : Addr} {o : Obj} {es : Array DictEntry} {ep : Nat} {xs : Ti} (it : Addr) (hod : o.data = .dict es ep) : Turn P w K tg (ItkI d o xs) [it] it (fun i h => h.IsKeyIter it d i xs.length ep) where
  mem := by simp
  obj := fun i h st b hb => by
    have e : b = it := by simpa using hb
    subst e
    obtain ⟨oi, e, c, dd⟩ := st
    exact ⟨oi, e, fun v z => by rw [dd] at z; cases z⟩
  keep := fun i h h' st k => st.at fun oi e => k it (by simp) oi e
  item := by
    intro X hP hw hK hc i pins s σ H E I hf st hg
    subst hP hw hK
    obtain ⟨hd, hi⟩ := hg
    obtain ⟨f0, f1, f2, f3, f4, f5⟩ := hf it (by simp)
    obtain ⟨hs, hgd, hx, es', ep', hdt, hsz, ent⟩ := frzI I hd
    obtain ⟨rfl, rfl⟩ := dict_ep hod hdt
    obtain ⟨p, hp⟩ : ∃ p, xs[i]? = some p := ⟨xs[i], List.getElem?_eq_getElem hi⟩
    obtain ⟨en, hen, hkey⟩ := ent i p hp
    refine next_key_item st hgd hdt hsz hen fun h' st' sb => ?_
    have I1 : Inv X pins σ H { s with heap := h' } := I.turned (t' := s.toks) (fun b ob hb e => (sb.2 b hb).trans e) f0 f1 f3 f4 f5
    obtain ⟨oi, e, c, dd⟩ := id st'
    exact ⟨en.key, rfl, go_of (s := { s with heap := h' }) e c dd (by decide) ⟨.ref p.2.1, H, I1, hkey, ⟨rfl, p, hp, rfl⟩, st', fun b hb => (hf b hb).1⟩⟩
  done := by
    intro X hP hw hK hc i pins s σ H E I hf st hg
    subst hP hw hK
    obtain ⟨hd, hi⟩ := hg
    obtain ⟨f0, f1, f2, f3, f4, f5⟩ := hf it (by simp)
    obtain ⟨hs, hgd, hx, es', ep', hdt, hsz, ent⟩ := frzI I hd
    obtain ⟨rfl, rfl⟩ := dict_ep hod hdt
    exact next_key_end (I.ok.hd hc) st hgd hdt hsz hi fun h' eb => ⟨rfl, I.turned (t' := s.toks) (fun b ob hb e => eb b ob hb e) f0 f1 f3 f4 f5⟩
  self := fun A i s Q E st h => by
    refine wpAny_pyIter_slot st.typeIs F.slot_dict_keyiterator_iter (wpAny_call_entry F.slot_dict_keyiterator_iter st.typeIs F.entry_dict_keyiterator_iter ?_ (F.args_dict_keyiterator_iter_1 _))
    show wpAny _ _ (ret (.ref it)) _ _ s
    exact wpAny_pure ⟨_, rfl, "dict_keyiterator", _, st.typeIs, F.slot_dict_keyiterator_next.lookup, h⟩
def iKeysI (td : TE) : TI := fun σ H R => td σ H fun x H1 => ∃ d o xs, x = .ref d ∧ H1 d = some (.frz o (TiD d xs)) ∧ R (ItkI d o xs) H1
theorem pi_keysI {tg e : Expr} {td : TE} (he : PE X e td) : PI X tg e (iKeysI td) := by
  refine ⟨fun pins s σ H R I h => ?_⟩
  refine thn (he.run pins s σ H _ I h) fun u s1 ⟨x, H1, I1, rx, d, o, xs, ex, hd, q⟩ => ?_
  subst ex
  obtain rfl : u = Value.ref d := rx
  obtain ⟨hs, hgd, hx, es, ep, hdt, hsz, ent⟩ := frzI I1 hd
  refine iter_keys hs hgd hx hdt (pi_one (tk := s1.toks) I1 _ (turn_keysI _ hdt) ⟨_, Heap.get?_push_size _ rfl, rfl, ?_⟩ q)
  rw [hsz] <;> rfl
def fdtU (μ : Mem) : U → Option (List (List Int × U))
  | .ref r => match μ[r]? with
    | some (.fdt kus) => some kus
    | _ => none
  | _ => none
def tupsU (kus : List (List Int × U)) : List U := kus.map fun p => .tup (p.1.map U.int)
def iKeysT (a : FE) : FI := fun s μ => (a s μ).bind fun u μ1 => match fdtU μ1 u with
  | some kus => .ok (.seq (tupsU kus)) μ1
  | none => .bad
theorem rep_is {K : PySem.W.Frag} {H : Hp} {ρ : List Addr} : ∀ xs : List Int, RepVs K H ρ (xs.map U.int) (xs.map V.int)
  | [] => .nil
  | _ :: xs => .cons .int (rep_is xs)
theorem it_keysI {K : PySem.W.Frag} {H : Hp} {ρ : List Addr} {d : Addr} {o : Obj} {xs : Ti} {kus : List (List Int × U)} (hd : H d = some (.frz o (TiD d xs))) (hq : ∀ p ∈ xs, SqT K H p.2.1 (p.1.map V.int)) (hk : xs.map (·.1) = kus.map (·.1)) :
    ItOk K ρ H (.seq (tupsU kus)) (ItkI d o xs) := by
  intro i ρ' H' μ' ex tx hm
  simp only [itemAt]
  have hl : xs.length = kus.length := by simpa using congrArg List.length hk
  have hd' := tx.2 _ _ _ hd
  by_cases hi : i < kus.length
  · have e : (tupsU kus)[i]? = some (.tup (kus[i].1.map U.int)) := by simp [tupsU, hi]
    rw [e]
    refine ⟨⟨hd', by omega⟩, ?_⟩
    rintro x H'' ⟨rfl, p, q1, rfl⟩
    have hx : i < xs.length := by omega
    have e1 : kus[i].1 = p.1 := by
      have e2 : (xs.map (·.1))[i]? = (kus.map (·.1))[i]? := by rw [hk]
      rw [List.getElem?_map, List.getElem?_map, q1, List.getElem?_eq_getElem hi] at e2
      exact (Option.some.inj e2).symm
    rw [e1]
    exact ⟨Stp.refl hm, .tup (tx.tv.seq (hq p (List.mem_of_getElem? q1))) (rep_is _)⟩
  · have e : (tupsU kus)[i]? = none := by simp [tupsU]; omega
    rw [e]
    exact ⟨hd', by omega⟩
theorem ci_keysT {tg e : Expr} {me : FE} (he : CE X W e me) : CI X W tg e (iKeysT me) := by
  intro ρ μ s σ H R hs hm h
  refine ⟨_, pi_keysI pe_w, ?_⟩
  refine he ρ μ s σ H _ hs hm (h.bind fun u μ1 x H1 ρ1 t1 r1 h1 => ?_)
  cases ek : fdtU μ1 u with
  | none => rw [ek] at h1; exact h1.elim
  | some kus =>
    rw [ek] at h1
    cases r1 with
    | ref hr =>
      obtain ⟨c, hc, rc⟩ := t1.mem.at hr
      simp only [fdtU, hc] at ek
      cases c with
      | fdt us =>
        cases ek
        obtain ⟨o, xs, q1, q0, q2, q3⟩ := rc
        exact ⟨_, o, xs, rfl, q1, h1.ok (Stp.refl t1.mem) (it_keysI q1 q0 q2)⟩
      | _ => cases ek
    | _ => cases ek
end
end Dg
/-! Dx: a dict display whose keys are tuples of ints. -/
namespace Dg
open PySem PySem.Spec PyProof.Rows L2
section
variable {prog : Program} {w : World} {T : Type} [DecidableEq T] {knd : HeapKind prog w T} {A : Around} {E : Value → Shared → Prop} {s : Shared} {env : Env}
theorem dictH_walk {keys : List (Option Expr)} {values : List Expr} {pos : Pos} {Q : Value → Shared → Prop} (hu : knd.room A)
    (hall : keys.all (·.isSome) = true) (hl : keys.length = values.length) (h0 : keys ≠ []) (hlen : keys.length ≤ 15)
    (h : wpAny (model prog w) A (evalPairs (pairTrees keys values env pos)) (fun vs s₁ => ∃ ps, CarriesH knd s₁.heap vs ps ∧ s₁.heap.DictOfH knd s.heap.objs.size [] ∧
      ∀ h' tk, h'.DictOfH knd s.heap.objs.size (storedAllH [] ps) → Heap.SameBut s.heap.objs.size s₁.heap h' → Q (.ref s.heap.objs.size) { s₁ with heap := h', toks := tk }) E
      { s with heap := s.heap.push { cls := .type "dict", data := .dict #[] } }) :
    wpAny (model prog w) A (eval (.Dict keys values pos) env) Q E s := by
  have hn := pairTrees_length keys values env pos hall hl
  have h0' : pairTrees keys values env pos ≠ [] := fun he => by
    rw [he] at hn
    exact h0 (List.length_eq_zero_iff.mp hn.symm)
  have hlen' : (pairTrees keys values env pos).length ≤ 15 := by rw [hn]; exact hlen
  rw [arm_eval_Dict, zip_pairTrees keys values env pos hall hl, dictDisplay_pairs (pairTrees keys values env pos) h0' (by omega)]
  exact wpAny_bind (wpAny_standAt (wpAny_bind (wpAny_subDictH (knd := knd) (Q := fun d s' => wpAny (model prog w) A (pure (Value.ref d)) Q E s') hu hlen'
    (wpAny_mono h (fun vs s₁ h₁ => by obtain ⟨ps, hc, hm, hq⟩ := h₁; exact ⟨ps, hc, hm, fun h' tk a b => wpAny_pure (hq h' tk a b)⟩) fun _ _ e => e))))
end
def mergeI (xs : Ti) (more : Ti) : Ti := more.foldl (fun acc p => putI acc p.1 p.2.1 p.2.2) xs
def mergeUI (kus more : KI) : KI := more.foldl (fun acc p => putUI acc p.1 p.2) kus
theorem PR.merge : ∀ {more : Ti} {rs : List (List Int × Addr × Value)} {xs : Ti} {ys : List (List Int × Addr × Value)}, PR more rs → PR xs ys → PR (mergeI xs more) (storedAllH ys rs) := by
  intro more rs xs ys r
  unfold PR at r
  induction r generalizing xs ys with
  | nil => intro q; exact q
  | @cons p q ps qs h t ih =>
    intro r0
    obtain ⟨e1, e2, e3⟩ := h
    have e : PR (putI xs p.1 p.2.1 p.2.2) (storedH ys q.1 q.2.1 q.2.2) := by
      rw [← e1, ← e2]
      exact r0.put p.1 p.2.1 e3
    exact ih e
theorem mergeI_len : ∀ (more xs : Ti), (mergeI xs more).length ≤ xs.length + more.length
  | [], xs => by show xs.length ≤ xs.length + 0; omega
  | p :: r, xs => by
    have h1 := mergeI_len r (putI xs p.1 p.2.1 p.2.2)
    have h2 := putI_len xs p.1 p.2.1 p.2.2
    show (mergeI (putI xs p.1 p.2.1 p.2.2) r).length ≤ _
    rw [List.length_cons]; omega
section
variable {X : Cx} {W : WX} {k : Nat}
theorem carriesI {pins : List (Addr × Obj)} {σ : L2.St} {H : Hp} {s : Shared} (I : Inv X pins σ H s) : ∀ {kvs : Ti} {ws : List (Value × Value)}, (∀ p ∈ kvs, SqT X.K H p.2.1 (p.1.map V.int)) → VV (kvs.map fun kv => (V.ref kv.2.1, kv.2.2)) ws →
    ∃ rs, CarriesH (tupleKind (intKind X.prog X.w)) s.heap ws rs ∧ PR kvs rs
  | [], _, _, r => by rw [List.map_nil] at r; cases r; exact ⟨[], True.intro, .nil⟩
  | p :: kvs, _, hq, r => by
    rw [List.map_cons] at r
    cases r with
    | @cons a b as bs h t =>
      obtain ⟨rs, c, q⟩ := carriesI I (fun p hp => hq p (by simp [hp])) t
      obtain ⟨b1, b2⟩ := b
      obtain ⟨h1, h2⟩ := h
      have e1 : b1 = Value.ref p.2.1 := h1
      exact ⟨(p.1, p.2.1, b2) :: rs, ⟨e1, rfl, tkey I (hq p (by simp)), c⟩, .cons ⟨rfl, rfl, h2⟩ q⟩
def tDispT (K : PySem.W.Frag) (trs : List (TE × TE)) : TE := fun σ H Q => ∀ p, H p = none → tPairs trs σ (upd H p (TiD p [])) fun ps H2 => H2 p = some (TiD p []) ∧ ∃ kvs : Ti, ps = kvs.map (fun kv => (V.ref kv.2.1, kv.2.2)) ∧ kvs.length ≤ 15 ∧ (∀ q ∈ kvs, SqT K H2 q.2.1 (q.1.map V.int)) ∧ Q (.ref p) (upd H2 p (TiD p (mergeI [] kvs)))
theorem pe_dispT {pos : Pos} {keys : List (Option Expr)} {values : List Expr} {trs : List (TE × TE)} (hu : X.A.units < cLine) (h : PPs X pos keys values trs) (hall : keys.all (·.isSome) = true) (hl : keys.length = values.length) (h0 : keys ≠ [])
    (h15 : keys.length ≤ 15) : PE X (.Dict keys values pos) (tDispT X.K trs) := by
  refine ⟨fun pins s σ H Q I q => ?_⟩
  have hn := I.hok.fresh (Nat.le_refl s.heap.objs.size)
  have I1 := I.laid (a := s.heap.objs.size) (o := TiD s.heap.objs.size []) (h' := s.heap.push { cls := .type "dict", data := .dict #[] }) (t' := s.toks) (fun _ _ q => Heap.get?_push_of_some _ q) (Nat.le_refl _) (ti_empty s.heap I.big)
  refine dictH_walk (knd := tupleKind (intKind X.prog X.w)) hu hall hl h0 h15 (thn (h.run pins _ σ _ _ I1 (q _ hn)) fun ws s2 ⟨ps, H2, I2, rel, e, kvs, ep, lk, hq, q2⟩ => ?_)
  subst ep
  obtain ⟨rs, c, rk⟩ := carriesI I2 hq rel
  obtain ⟨hd, z, ys, r0, dd⟩ := tdict I2 (a := s.heap.objs.size) (xs := []) ⟨e, fun p hp => by cases hp⟩
  cases r0
  refine ⟨rs, c, dd, fun h' tk dd' sb => ⟨.ref s.heap.objs.size, _, ?_, rfl, q2⟩⟩
  have hz : (mergeI [] kvs).length ≤ sizeLine := by
    have h1 := mergeI_len kvs []
    rw [List.length_nil] at h1
    rw [sizeLine_eq]; omega
  have ex : ∃ q, h'.get? s.heap.objs.size = some q := let ⟨q, _, _, hq, _⟩ := dd'; ⟨q, hq⟩
  exact d_write I2 (by rw [e]; exact True.intro) sb ex (ti_ok hd hz (PR.merge rk .nil) dd')
/-! ### {k: v, ..} -/
def fPairsT : List (FE × FE) → Slots → Mem → Res KI
  | [], _, μ => .ok [] μ
  | (k, v) :: r, s, μ => (k s μ).bind fun ku μ1 => (v s μ1).bind fun u μ2 => match tkeyU ku with
    | some key => (fPairsT r s μ2).bind fun kus μ3 => .ok ((key, u) :: kus) μ3
    | none => .bad
def relTi : RelT KI Ti := fun K H ρ a b => RepTi K H ρ a b
def fDispT (ms : List (FE × FE)) : FE := fun s μ => (fPairsT ms s (μ ++ [.dtt []])).bind fun kus μ1 => match μ1[μ.length]? with
  | some (.dtt []) => if kus.length ≤ 15 then .ok (.ref μ.length) (μ1.set μ.length (.dtt (mergeUI [] kus))) else .bad
  | _ => .bad
theorem repTi_nil {K : PySem.W.Frag} {H : Hp} {ρ : List Addr} : RepTi K H ρ [] [] := RepTi.of (fun p hp => by cases hp) rfl .nil
theorem repTi_cons {K : PySem.W.Frag} {H : Hp} {ρ : List Addr} {k : List Int} {b : Addr} {u : U} {v : V} {kus : KI} {xs : Ti} (hb : SqT K H b (k.map V.int)) (ru : RepV K H ρ u v) (r : RepTi K H ρ kus xs) : RepTi K H ρ ((k, u) :: kus) ((k, b, v) :: xs) := by
  obtain ⟨a1, a2, a3⟩ := r.to
  exact RepTi.of (fun p hp => by rcases List.mem_cons.mp hp with rfl | h; exact hb; exact a1 p h) (by simp [a2]) (.cons ru a3)
theorem RepTi.merge {K : PySem.W.Frag} {H : Hp} {ρ : List Addr} : ∀ {more : KI} {mv : Ti} {kus : KI} {kvs : Ti}, RepTi K H ρ more mv → RepTi K H ρ kus kvs → RepTi K H ρ (mergeUI kus more) (mergeI kvs mv)
  | [], mv, kus, kvs, h, g => by
    have e : mv = [] := by
      have := h.len
      exact List.length_eq_zero_iff.mp (by simpa using this)
    subst e
    exact g
  | (k, u) :: more, [], kus, kvs, h, g => by have := h.len; simp at this
  | (k, u) :: more, (k', b, v) :: mv, kus, kvs, h, g => by
    obtain ⟨a1, a2, a3⟩ := h.to
    simp only [List.map_cons, List.cons.injEq] at a2 a3
    obtain ⟨e1, a2⟩ := a2
    subst e1
    cases a3 with
    | cons r1 r2 =>
      show RepTi K H ρ (mergeUI (putUI kus k' u) more) (mergeI (putI kvs k' b v) mv)
      exact RepTi.merge (RepTi.of (fun p hp => a1 p (by simp [hp])) a2 r2) (g.put (a1 (k', b, v) (List.mem_cons_self ..)) r1)
theorem CP.pairsT {pos : Pos} {ks : List (Option Expr)} {vs : List Expr} {ms : List (FE × FE)} (c : CP X W ks vs ms) : ∃ trs : List (TE × TE), PPs X pos ks vs trs ∧ ∀ (ρ : List Addr) (μ : Mem) (s : Slots) (σ : L2.St) (H : Hp) (Q : List (V × V) → Hp → Prop), RepS X.K H ρ s σ → RepM X.K H ρ μ →
    Post X W σ relTi ρ H (fPairsT ms s μ) (fun kvs H3 => Q (kvs.map fun kv => (V.ref kv.2.1, kv.2.2)) H3) → tPairs trs σ H Q := by
  induction c with
  | nil => exact ⟨[], pps_nil, fun ρ μ s σ H Q hs hm h => h.ok (v := []) (Stp.refl hm) repTi_nil⟩
  | @cons k v mk mv ks vs ms hk hv r ih =>
    obtain ⟨trs, p, ih⟩ := ih
    refine ⟨(WE X k, WE X v) :: trs, pps_cons pe_w pe_w p, fun ρ μ s σ H Q hs hm h => ?_⟩
    refine hk ρ μ s σ H _ hs hm (h.bind fun ku μ1 x H1 ρ1 t1 r1 h1 => ?_)
    refine hv ρ1 μ1 s σ H1 _ (t1.s hs) t1.mem (h1.bind fun u μ2 y H2 ρ2 t2 r2 h2 => ?_)
    split at h2
    · rename_i key e
      obtain ⟨b, ex, hb⟩ := tkeyU_ok (t2.v r1) e
      subst ex
      refine ih ρ2 μ2 s σ H2 _ (t2.s (t1.s hs)) t2.mem (h2.bind (rel1 := relTi) fun kus μ3 kvs H3 ρ3 t3 r3 h3 => ?_)
      exact h3.ok (v := (key, b, y) :: kvs) (Stp.refl t3.mem) (repTi_cons (t3.tx.tv.seq hb) (t3.v r2) r3)
    · exact h2.elim
theorem ce_dispT {ks : List (Option Expr)} {vs : List Expr} {ms : List (FE × FE)} {pos : Pos} (G : Good X W (k + 40)) (c : CP X W ks vs ms) (hall : ks.all (·.isSome) = true := by rfl) (hl : ks.length = vs.length := by rfl) (h0 : ks ≠ [] := by exact List.cons_ne_nil _ _)
    (h15 : ks.length ≤ 15 := by decide) : CE X W (.Dict ks vs pos) (fDispT ms) := by
  intro ρ μ s σ H Q hs hm h
  obtain ⟨trs, p, run⟩ := c.pairsT (pos := pos)
  refine ⟨_, pe_dispT (by have := G.hu; omega) p hall hl h0 h15, fun q nq => ?_⟩
  have t0 := newTi hm nq
  refine run (ρ ++ [q]) (μ ++ [.dtt []]) s σ _ _ (t0.s hs) t0.mem ((Post.from' t0 h).bind (rel1 := relTi) fun kus μ1 kvs H1 ρ1 t1 r1 h1 => ?_)
  split at h1
  · rename_i e
    split at h1
    · rename_i hz
      have er : ρ1[μ.length]? = some q := t1.ext.get (by rw [← hm.len]; simp)
      obtain ⟨xs, a1, a2⟩ := dtt_of t1.mem er e
      have : xs = [] := by
        have := a2.len
        exact List.length_eq_zero_iff.mp (by simpa using this)
      subst this
      refine ⟨a1, kvs, rfl, by rw [r1.len]; exact hz, r1.to.1, ?_⟩
      exact h1.ok (putTi t1.mem er e (RepTi.merge r1 repTi_nil)) (.ref er)
    · exact h1.elim
  · exact h1.elim
end
end Dg
/-! Dy: methods of texts, str(..), int(text), displays with a starred part, {e!r}. -/
namespace Dg
open PySem PySem.Spec PyProof.Rows L2 RZ
section
variable {X : Cx} {W : WX} {k : Nat}
/-! ### methods of texts -/
def fMtS (g : U → List U → Mem → Res U) (o : FE) (a : FA) : FE := fun s μ => (o s μ).bind fun u μ1 => match u with
  | .str z => (a s μ1).bind fun us μ2 => g (.str z) us μ2
  | _ => .bad
theorem ce_mtS {id : String} {name : Str} {o e : Expr} {es : List Expr} {mo : FE} {ma : FA} {g : U → List U → Mem → Res U} {apos cpos : Pos} (hg : MtS X W id g) (ho : CE X W o mo) (ha : CA X W (e :: es) ma)
    (hp : ∀ {r : V → List V → Hp → VK → Prop} {to : TE} {t : TA}, MtR X id r → PE X o to → PA X (e :: es) t → PE X (.Call (.Attribute o name apos) (e :: es) [] cpos) (tBM X.K "str" r to t)) : CE X W (.Call (.Attribute o name apos) (e :: es) [] cpos) (fMtS g mo ma) := by
  intro ρ μ s σ H Q hs hm h
  refine ⟨_, hp mt_w pe_w pa_w, ?_⟩
  refine ho ρ μ s σ H _ hs hm (h.bind fun u μ1 x H1 ρ1 t1 r1 h1 => ?_)
  cases r1 with
  | str hz =>
    refine ⟨rfl, ?_⟩
    exact ha ρ1 μ1 s σ H1 _ (t1.s hs) t1.mem (h1.bind fun us μ2 vs H2 ρ2 t2 r2 h2 => hg ρ2 μ2 σ H2 _ us _ vs Q t2.mem (.str hz) r2 h2)
  | _ => exact h1.elim
theorem ce_mtS0 {id : String} {name : Str} {o : Expr} {mo : FE} {g : U → List U → Mem → Res U} {apos cpos : Pos} (hg : MtS X W id g) (ho : CE X W o mo)
    (hp : ∀ {r : V → List V → Hp → VK → Prop} {to : TE}, MtR X id r → PE X o to → PE X (.Call (.Attribute o name apos) [] [] cpos) (tBM0 X.K "str" r to)) : CE X W (.Call (.Attribute o name apos) [] [] cpos) (fMtS g mo aNil) := by
  intro ρ μ s σ H Q hs hm h
  refine ⟨_, hp mt_w pe_w, ?_⟩
  refine ho ρ μ s σ H _ hs hm (h.bind fun u μ1 x H1 ρ1 t1 r1 h1 => ?_)
  cases r1 with
  | str hz => exact ⟨rfl, hg ρ1 μ1 σ H1 _ [] _ [] Q t1.mem (.str hz) .nil h1⟩
  | _ => exact h1.elim
theorem newStrs {K : PySem.W.Frag} {H : Hp} {ρ : List Addr} {μ : Mem} {W : WX} {σ : L2.St} {Q : VK} {ys : List Str} {X : Cx} (hm : RepM X.K H ρ μ) (ok : ∀ y ∈ ys, PyData.strOk y = true) (h : Post X W σ relV ρ H (.ok (.ref μ.length) (μ ++ [.lst (ys.map U.str)])) Q) : rNewStrs ys H Q := by
  intro p np
  exact h.ok (newL hm np (RepVs.ofStrs ys ok)) (refN hm)
def gSplit (u : U) (us : List U) (μ : Mem) : Res U := match u, us with
  | .str a, [.str b] => if b.length ≠ 0 ∧ a.length + 2 ≤ lim ∧ (Txt.split a b).all PyData.strOk = true then .ok (.ref μ.length) (μ ++ [.lst ((Txt.split a b).map U.str)]) else .bad
  | .str a, [.str b, .int k] => if b.length ≠ 0 ∧ a.length + 2 ≤ lim ∧ (Txt.splitMax a b k).all PyData.strOk = true ∧ -(2 ^ 63) ≤ k ∧ k < 2 ^ 63 then .ok (.ref μ.length) (μ ++ [.lst ((Txt.splitMax a b k).map U.str)]) else .bad
  | _, _ => .bad
theorem gs_split : MtS X W "str.split" gSplit := by
  intro ρ μ σ H u us x vs Q hm ru r h
  unfold gSplit at h
  split at h
  · cases ru
    cases r with
    | cons r1 r2 =>
      cases r2
      cases r1
      split at h
      · rename_i hc
        obtain ⟨h1, h2, h3⟩ := hc
        refine ⟨_, mt_split, _, _, rfl, rfl, ?_, lim_le h2, newStrs (K := X.K) hm (fun y hy => List.all_eq_true.mp h3 y hy) h⟩
        exact beq_false_of_ne h1
      · exact h.elim
  · cases ru
    cases r with
    | cons r1 r2 =>
      cases r2 with
      | cons r3 r4 =>
        cases r4
        cases r1
        cases r3
        split at h
        · rename_i hc
          obtain ⟨h1, h2, h3, h4, h5⟩ := hc
          refine ⟨_, mt_splitMax, _, _, _, rfl, rfl, beq_false_of_ne h1, h4, h5, lim_le h2, newStrs (K := X.K) hm (fun y hy => List.all_eq_true.mp h3 y hy) h⟩
        · exact h.elim
  · exact h.elim
def gJoin (u : U) (us : List U) (μ : Mem) : Res U := match u, us with
  | .str a, [w] => match (seqU μ w).bind strsU with
    | some ys => if (ys.map (·.length)).sum + ys.length * a.length ≤ 16777216 ∧ PyData.strOk (Txt.join a ys) = true then .ok (.str (Txt.join a ys)) μ else .bad
    | none => .bad
  | _, _ => .bad
theorem gs_join : MtS X W "str.join" gJoin := by
  intro ρ μ σ H u us x vs Q hm ru r h
  unfold gJoin at h
  split at h
  · cases ru
    cases r with
    | cons r1 r2 =>
      cases r2
      split at h
      · rename_i ys e
        split at h
        · rename_i hc
          obtain ⟨us, e1, e2⟩ := Option.bind_eq_some_iff.mp e
          obtain ⟨p, vs, rfl, hp, r3⟩ := seqU_ok hm r1 e1
          rw [strsU_ok e2] at r3
          have ev := r3.strs
          rw [ev] at hp
          exact ⟨_, mt_join, _, p, ys, rfl, rfl, hp, hc.1, h.ok (Stp.refl hm) (.str hc.2)⟩
        · exact h.elim
      · exact h.elim
  · exact h.elim
def gUpper (u : U) (us : List U) (μ : Mem) : Res U := match u, us with
  | .str a, [] => if a.length ≤ 5592405 ∧ PyData.strOk (Txt.upper a) = true then .ok (.str (Txt.upper a)) μ else .bad
  | _, _ => .bad
theorem gs_upper : MtS X W "str.upper" gUpper := by
  intro ρ μ σ H u us x vs Q hm ru r h
  unfold gUpper at h
  split at h
  · cases ru
    cases r
    split at h
    · rename_i hc
      exact ⟨_, mt_upper, _, rfl, rfl, hc.1, h.ok (Stp.refl hm) (.str hc.2)⟩
    · exact h.elim
  · exact h.elim
def gFind (u : U) (us : List U) (μ : Mem) : Res U := match u, us with
  | .str a, [.str b] => .ok (.int (Txt.find a b)) μ
  | _, _ => .bad
theorem gs_find : MtS X W "str.find" gFind := by
  intro ρ μ σ H u us x vs Q hm ru r h
  unfold gFind at h
  split at h
  · cases ru
    cases r with
    | cons r1 r2 =>
      cases r2
      cases r1
      exact ⟨_, mt_find, _, _, rfl, rfl, h.ok (Stp.refl hm) .int⟩
  · exact h.elim
/-! ### str(x), int(text) -/
def bStr (us : List U) (μ : Mem) : Res U := match us with
  | [.int i] => if i.natAbs.log2 < 1920 ∧ PyData.strOk (toString i : Str) = true then .ok (.str (toString i)) μ else .bad
  | [.str a] => .ok (.str a) μ
  | _ => .bad
theorem cs_str : CallS X W (.type "str") bStr := by
  intro ρ μ σ H us vs Q hm r h
  unfold bStr at h
  split at h
  · cases r with
    | cons ru r0 =>
      cases r0; cases ru
      split at h
      · rename_i hc
        exact ⟨_, call_str_int, _, rfl, hc.1, h.ok (Stp.refl hm) (.str hc.2)⟩
      · exact h.elim
  · cases r with
    | cons ru r0 =>
      cases r0
      cases ru with
      | str hz => exact ⟨_, SkE.call_str_str, _, rfl, h.ok (Stp.refl hm) (.str hz)⟩
  · exact h.elim
def bIntT (us : List U) (μ : Mem) : Res U := match us with
  | [.str a] => match PySem.intText? a with
    | some n => if a.length ≤ 640 then .ok (.int n) μ else .bad
    | none => .bad
  | _ => .bad
theorem cs_intT : CallS X W (.type "int") bIntT := by
  intro ρ μ σ H us vs Q hm r h
  unfold bIntT at h
  split at h
  · cases r with
    | cons ru r0 =>
      cases r0; cases ru
      split at h
      · rename_i n e
        split at h
        · exact ⟨_, call_int_str, _, n, rfl, e, by assumption, h.ok (Stp.refl hm) .int⟩
        · exact h.elim
      · exact h.elim
  · exact h.elim
/-! ### displays with a starred part -/
def aStar (a : FE) (b : FA) : FA := fun s μ => (a s μ).bind fun u μ1 => match seqU μ1 u with
  | some us => (b s μ1).bind fun ws μ2 => .ok (us ++ ws) μ2
  | none => .bad
theorem ca_star {e : Expr} {es : List Expr} {ma : FE} {mb : FA} {p : Pos} (ha : CE X W e ma) (hb : CA X W es mb) (hs0 : starEach (.Starred e p :: es) X.env = (true, eval e X.env) :: starEach es X.env := by rfl) : CA X W (.Starred e p :: es) (aStar ma mb) := by
  intro ρ μ s σ H Q hs hm h
  refine ⟨_, StX.pa_star pe_w pa_w hs0, ?_⟩
  refine ha ρ μ s σ H _ hs hm (h.bind fun u μ1 x H1 ρ1 t1 r1 h1 => ?_)
  cases e1 : seqU μ1 u with
  | none => rw [e1] at h1; exact h1.elim
  | some us =>
    rw [e1] at h1
    obtain ⟨a, vs, rfl, hq, rr⟩ := seqU_ok t1.mem r1 e1
    refine ⟨a, vs, rfl, hq.elim .inr .inl, ?_⟩
    refine hb ρ1 μ1 s σ H1 _ (t1.s hs) t1.mem (Post.bind (rel2 := relVs) h1 fun ws μ2 ys H2 ρ2 t2 r2 h2 => ?_)
    exact h2.ok (Stp.refl t2.mem) ((t2.vs rr).append r2)
/-! ### {e!r} -/
def fFmtR (a : FE) : FE := fun s μ => (a s μ).bind fun u μ1 => match u with
  | .str y => if (reprText y).length ≤ lim ∧ PyData.strOk (reprText y) = true then .ok (.str (reprText y)) μ1 else .bad
  | _ => .bad
theorem ce_fmtR {e : Expr} {me : FE} {pos : Pos} (he : CE X W e me) : CE X W (.FormattedValue e 114 none pos) (fFmtR me) := by
  intro ρ μ s σ H Q hs hm h
  refine ⟨_, pe_fmtR pe_w, ?_⟩
  refine he ρ μ s σ H _ hs hm (h.bind fun u μ1 x H1 ρ1 t1 r1 h1 => ?_)
  cases u with
  | str y =>
    cases r1 with
    | str ok =>
      simp only at h1
      split at h1
      · rename_i hl
        exact .inl ⟨y, rfl, lim_le hl.1, h1.ok (Stp.refl t1.mem) (.str hl.2)⟩
      · exact h1.elim
  | _ => exact h1.elim
/-! ### a display of two where the second one asks the caught error -/
theorem at_two {i : Nat} {a : Addr} {e1 e2 : Expr} {m1 m2 : FE} (h1 : CE X W e1 m1) (h2 : CEat X W i a e2 m2) (hs1 : starEach [e1, e2] X.env = (false, eval e1 X.env) :: starEach [e2] X.env) (hs2 : starEach [e2] X.env = (false, eval e2 X.env) :: starEach [] X.env)
    (ρ : List Addr) (μ : Mem) (s : Slots) (σ : L2.St) (H : Hp) (Q : List V → Hp → Prop) (hi : σ[i]? = some (some (.ref a))) (hs : RepS X.K H ρ s σ) (hm : RepM X.K H ρ μ) (h : Post X W σ relVs ρ H (aCons m1 (aCons m2 aNil) s μ) Q) : WA X [e1, e2] σ H Q := by
  refine ⟨_, pa_cons pe_w (pa_cons pe_w pa_nil hs2) hs1, ?_⟩
  refine h1 ρ μ s σ H _ hs hm (h.bind fun u μ1 x H1 ρ1 t1 r1 h1 => ?_)
  have h1' : Post X W σ relVs ρ1 H1 (((m2 s μ1).bind fun u2 μ2 => .ok [u2] μ2).bind fun us μ2 => .ok (u :: us) μ2) Q := h1
  have e : (((m2 s μ1).bind fun u2 μ2 => (Res.ok [u2] μ2 : Res (List U))).bind fun us μ2 => .ok (u :: us) μ2) = (m2 s μ1).bind fun u2 μ2 => .ok [u, u2] μ2 := by cases m2 s μ1 <;> rfl
  rw [e] at h1'
  refine h2 ρ1 μ1 s σ H1 _ hi (t1.s hs) t1.mem (h1'.bind fun u2 μ2 y H2 ρ2 t2 r2 h2 => ?_)
  exact h2.ok (Stp.refl t2.mem) (.cons (t2.v r1) (.one r2))
theorem at_lst2 {i : Nat} {a : Addr} {e1 e2 : Expr} {m1 m2 : FE} {pos : Pos} (h1 : CE X W e1 m1) (h2 : CEat X W i a e2 m2) (hs1 : starEach [e1, e2] X.env = (false, eval e1 X.env) :: starEach [e2] X.env := by rfl) (hs2 : starEach [e2] X.env = (false, eval e2 X.env) :: starEach [] X.env := by rfl) :
    CEat X W i a (.List [e1, e2] pos) (fLst (aCons m1 (aCons m2 aNil))) := by
  intro ρ μ s σ H Q hi hs hm h
  refine ⟨_, pe_lst pa_w, ?_⟩
  refine at_two h1 h2 hs1 hs2 ρ μ s σ H _ hi hs hm (h.bind fun us μ1 vs H1 ρ1 t1 r1 h1 => ?_)
  split at h1
  · exact ⟨by rw [← RepVs.length r1]; exact lim_le (by assumption), fun p np => h1.ok (newL t1.mem np r1) (refN t1.mem)⟩
  · exact h1.elim
end
end Dg
/-! Ef: enumerate(tuple). -/
namespace PySem
open Sem (wp)
open AutoSeq1 (wpAny_loadPart')
theorem meets_enumerate_newT (l : Addr) (items : Array Value) (n : Nat) (dct : Option Addr) (sl : Array (Option Value)) :
    Meets (Builtin.«enumerate.__new__» ⟨[.type "enumerate", .ref l], []⟩) (fun _ R s => s.heap.get? l = some { cls := .type "tuple", dict := dct, data := .seq items n, slots := sl } ∧
      R (.ok (.ret (.ref (s.heap.push { cls := .type "tuple_iterator", data := .fields #[.ref l, .int 0 0] }).objs.size)))
        { s with heap := (s.heap.push { cls := .type "tuple_iterator", data := .fields #[.ref l, .int 0 0] }).push { cls := .type "enumerate", data := .fields #[.none, .bool false, .ref s.heap.objs.size, rawInt 0, .none, .none] } }) :=
  .of_wp fun prog w A R s h => by
    obtain ⟨hp, g, d, tk, os⟩ := s; obtain ⟨hl, h⟩ := h
    have hsub := sub_enumerate
    have hL : Heap.IsTuple (Shared.heap ⟨hp, g, d, tk, os⟩) l items := ⟨_, hl, rfl, n, rfl⟩
    wp_walk using wpAny_loadPart' hl
    refine wpAny_stack_any fun st => wpAny_pure ?_
    split
    · rename_i c _ _ _ _ _
      cases (c == Value.type "enumerate")
      · wp_walk using wpAny_loadPart' hl, wpAny_pyIter_tuple hL
        exact ⟨_, rfl, h⟩
      · wp_walk using wpAny_loadPart' hl, wpAny_pyIter_tuple hL
        exact ⟨_, rfl, h⟩
    · wp_walk using wpAny_loadPart' hl, wpAny_pyIter_tuple hL
      exact ⟨_, rfl, h⟩
section
variable {prog : Program} {w : World} {A : Around} {E : Value → Shared → Prop} {s : Shared}
theorem call_enumerate_tuple {l : Addr} {items : Array Value} {Q : Value → Shared → Prop} (hL : s.heap.IsTuple l items)
    (h : ∀ h', IsEnum h' (s.heap.objs.size + 1) s.heap.objs.size 0 .none → h'.IsTupleIter s.heap.objs.size l 0 → h'.objs.size = s.heap.objs.size + 2 →
      (∀ b o, s.heap.get? b = some o → h'.get? b = some o) → Q (.ref (s.heap.objs.size + 1)) { s with heap := h' }) :
    wpAny (model prog w) A (call (.type "enumerate") [.ref l]) Q E s := by
  obtain ⟨⟨c, dct, dt, sl⟩, hl, hc, n, hd⟩ := hL
  replace hc : c = .type "tuple" := hc
  replace hd : dt = .seq items n := hd
  subst hc hd
  refine callType_new F.called_enumerate (by decide) (F.typeCall_enumerate_1 _) (F.newCall_enumerate_1 _) (fun obj => F.args_object_init_2 obj _) F.entry_enumerate_new
    (meets_enumerate_newT l items n dct sl) ⟨hl, ?_⟩
  have hz : (s.heap.push { cls := .type "tuple_iterator", data := .fields #[.ref l, .int 0 0] }).objs.size = s.heap.objs.size + 1 := Heap.size_push ..
  show _ ∧ _
  rw [hz]
  have he : IsEnum ((s.heap.push { cls := .type "tuple_iterator", data := .fields #[.ref l, .int 0 0] }).push
      { cls := .type "enumerate", data := .fields #[.none, .bool false, .ref s.heap.objs.size, rawInt 0, .none, .none] }) (s.heap.objs.size + 1) s.heap.objs.size 0 .none := by
    have := Heap.get?_push_size (s.heap.push { cls := .type "tuple_iterator", data := .fields #[.ref l, .int 0 0] })
      (o := { cls := .type "enumerate", data := .fields #[.none, .bool false, .ref s.heap.objs.size, rawInt 0, .none, .none] }) rfl
    rw [hz] at this; exact this
  refine ⟨⟨_, he, rfl⟩, h _ he ⟨_, Heap.get?_push_of_some _ (Heap.get?_push_size _ rfl), rfl, rfl⟩ (by rw [Heap.size_push, hz]) fun b o x => Heap.get?_push_of_some _ (Heap.get?_push_of_some _ x)⟩
end
end PySem
namespace Dg
open PySem PySem.Spec PyProof.Rows L2
def IteT (K : PySem.W.Frag) (a : Addr) : It :=
  ⟨fun i H => ∃ (xs : List V) (x : V), SqT K H a xs ∧ xs[i]? = some x, fun i H v H' => ∃ T x, v = .ref T ∧ H T = none ∧ H' = upd H T (.tup [.int (i : Nat), x]) ∧ ∀ xs, SqT K H a xs → xs[i]? = some x, fun i H => ∃ xs : List V, SqT K H a xs ∧ xs.length ≤ i⟩
theorem turn_enumT {P : Program} {w : World} {K : PySem.W.Frag} {elts : List Expr} {kk : Nat} {tpos : Pos} {a e it : Addr} (hne : e ≠ it) (hea : e ≠ a) (hai : a ≠ it) :
    Turn P w K (.Tuple elts kk tpos) (IteT K a) [e, it] e (fun i h => (∃ old, IsEnum h e it ((i : Nat) : Int) old) ∧ h.IsTupleIter it a i) where
  mem := by simp
  obj := fun i h st b hb => by
    obtain ⟨⟨old, he⟩, ⟨o, ho, hc, hd⟩⟩ := st
    have e' : b = e ∨ b = it := by simpa using hb
    rcases e' with z | z
    · rw [z]; exact ⟨_, he, fun v q => nomatch q⟩
    · rw [z]; exact ⟨o, ho, fun v q => by rw [hd] at q; cases q⟩
  keep := fun i h h' st k => let ⟨⟨old, he⟩, hi⟩ := st; ⟨⟨old, k e (by simp) _ he⟩, hi.at fun o q => k it (by simp) o q⟩
  item := by
    intro X hP hw hK hc i pins s σ H E I hf st hg
    subst hP hw hK
    obtain ⟨⟨old, he⟩, hit⟩ := st
    obtain ⟨xs, x, hq, hx⟩ := hg
    obtain ⟨its, rv, p, hz⟩ := I.tuple hq
    obtain ⟨u, hu, ru⟩ := rv.get hx
    have hel : e < s.heap.objs.size := Heap.lt_size he
    have hil : it < s.heap.objs.size := by obtain ⟨_, q, _⟩ := id hit; exact Heap.lt_size q
    have lu : i < its.toArray.size := by simpa using (List.getElem?_eq_some_iff.mp hu).1
    have hh : X.A.in1.handled = none := I.ok.hd hc
    obtain ⟨m1, P1, S1, D1, _, _, l1, b1, c1, e1⟩ := drT (P := X.prog) (w := X.w) hh hai its.toArray i
    refine wpAny_pyNext_enum_itemC D1 he (b1 _ hit p) (l1 lu) hne (by simp [hne, hea]) fun u' h' tk hP ho k1 hT hsz hk => ?_
    have ex1 : u' = u := by
      have := c1 _ hP
      simp only [List.getElem?_toArray, hu] at this
      cases this; rfl
    subst ex1
    refine ⟨_, rfl, wpAny_letOwnedTupleGo_enum (s := { s with heap := h', toks := tk + 1 }) ho fun h'' he' sb => ?_⟩
    have hT2 : h''.get? s.heap.objs.size = some { cls := .type "tuple", data := .seq #[.int i tk, u'] } := (sb.2 _ (Nat.ne_of_gt hel)).trans hT
    have new : ObjOk X.prog X.w (upd H s.heap.objs.size (.tup [.int (i : Nat), x])) h'' s.heap.objs.size (.tup [.int (i : Nat), x]) :=
      ⟨by show 2 ≤ sizeLine; decide, [.int i tk, u'], .cons ⟨_, rfl⟩ (.cons ru .nil), ⟨_, hT2, rfl, _, rfl⟩⟩
    have I1 : Inv X pins σ (upd H s.heap.objs.size (.tup [.int (i : Nat), x])) { s with heap := h'', toks := tk + 1 } :=
      I.turnedNew (ch := [e, it]) (fun b ob hb q => (sb.2 b (fun z => hb (by simp [z]))).trans (hk b ob (fun z => hb (by simp [z])) (fun z => hb (by simp [z])) q)) hf (Nat.le_refl _) new
    refine ⟨.ref s.heap.objs.size, _, I1, rfl, ⟨_, x, rfl, I.hok.fresh (Nat.le_refl _), rfl, fun ys hy => by rw [I.tuple_inj hy hq]; exact hx⟩, ⟨⟨u', ?_⟩, (e1 _ lu k1).at fun o q => (sb.2 it (Ne.symm hne)).trans q⟩, fun b hb => ?_⟩
    · have e1 : ((i + 1 : Nat) : Int) = (i : Int) + 1 := by omega
      rw [e1]; exact he'
    · have hb' : b < s.heap.objs.size := by
        have e' : b = e ∨ b = it := by simpa using hb
        rcases e' with z | z
        · rw [z]; exact hel
        · rw [z]; exact hil
      rw [upd_ne (Nat.ne_of_lt hb')]
      exact (hf b hb).1
  done := by
    intro X hP hw hK hc i pins s σ H E I hf st hg
    subst hP hw hK
    obtain ⟨⟨old, he⟩, hit⟩ := st
    obtain ⟨xs, hq, hx⟩ := hg
    obtain ⟨its, rv, p, hz⟩ := I.tuple hq
    obtain ⟨f0, f1, f2, f3, f4, f5⟩ := hf it (by simp)
    have hl := rv.length
    have hh : X.A.in1.handled = none := I.ok.hd hc
    obtain ⟨m1, P1, S1, D1, a1, g1, _, b1, _⟩ := drT (P := X.prog) (w := X.w) hh hai its.toArray i
    have hs := b1 _ hit p
    rw [g1 (by simp; omega)] at hs
    exact wpAny_pyNext_enum_endD D1 he hs fun h' eb => ⟨rfl, I.turned (t' := s.toks) (fun b o hb q => eb b o hb q) f0 f1 f3 f4 f5⟩
  self := fun A i s Q E st h => let ⟨⟨_, he⟩, _⟩ := st; wpAny_pyIter_enum he h
def iEnumT (K : PySem.W.Frag) (ta : TA) : TI := fun σ H R => ta σ H fun vs H1 => ∃ a, vs = [.ref a] ∧ (((∃ xs, SqL K H1 a xs) ∧ R (Ite K a) H1) ∨ (∃ xs, SqT K H1 a xs) ∧ R (IteT K a) H1)
theorem pi_enumT {X : Cx} {e : Expr} {ta : TA} {p pos tpos : Pos} {elts : List Expr} {kk : Nat} (hg : Gl X "enumerate") (hm : X.mg "enumerate" = none) (ha : PA X [e] ta) (hs : starEach [e] X.env = [(false, eval e X.env)] := by rfl) :
    PI X (.Tuple elts kk tpos) (.Call (.Name "enumerate" p) [e] [] pos) (iEnumT X.K ta) := by
  refine ⟨fun pins s σ H R I h => ?_⟩
  refine Call_ (ld_blt I hg hm boot_enumerate (PyProof.Rows.callWith_type1 (thn (ha.run pos pins s σ H _ I h) fun us s1 ⟨vs, H1, I1, r1, q1⟩ => ?_) hs rfl))
  obtain ⟨a, ex, q⟩ := q1
  subst ex
  cases r1 with
  | cons r rr =>
    cases rr
    cases r
    rcases q with ⟨⟨xs, hq⟩, q⟩ | ⟨⟨xs, hq⟩, q⟩
    · obtain ⟨its, rv, p', hz⟩ := I1.list hq
      refine call_enumerate_list p'.isList fun h' he hit hsz hk => wpAny_pyIter_enum he ?_
      have I2 : Inv X pins σ H1 { s1 with heap := h' } := I1.kept (t' := s1.toks) hk
      refine ⟨s1.heap.objs.size + 1, [s1.heap.objs.size + 1, s1.heap.objs.size], _, _, H1, rfl, I2, turn_enum a (s1.heap.objs.size + 1) s1.heap.objs.size, ⟨⟨.none, he⟩, hit, Nat.succ_ne_self _⟩, fun b hb => ?_, q⟩
      have e' : b = s1.heap.objs.size + 1 ∨ b = s1.heap.objs.size := by simpa using hb
      have hle : s1.heap.objs.size ≤ b := by
        rcases e' with z | z
        · rw [z]; exact Nat.le_add_right _ _
        · rw [z]; exact Nat.le_refl _
      exact I1.fpOk hle (I1.hok.fresh hle)
    · obtain ⟨its, rv, p', hz⟩ := I1.tuple hq
      have la : a < s1.heap.objs.size := by obtain ⟨o, e, _⟩ := id p'; exact Heap.lt_size e
      refine call_enumerate_tuple p' fun h' he hit hsz hk => wpAny_pyIter_enum he ?_
      have I2 : Inv X pins σ H1 { s1 with heap := h' } := I1.kept (t' := s1.toks) hk
      refine ⟨s1.heap.objs.size + 1, [s1.heap.objs.size + 1, s1.heap.objs.size], _, _, H1, rfl, I2, turn_enumT (Nat.succ_ne_self _) (Nat.ne_of_gt (Nat.lt_succ_of_lt la)) (Nat.ne_of_lt la), ⟨⟨.none, he⟩, hit⟩, fun b hb => ?_, q⟩
      have e' : b = s1.heap.objs.size + 1 ∨ b = s1.heap.objs.size := by simpa using hb
      have hle : s1.heap.objs.size ≤ b := by
        rcases e' with z | z
        · rw [z]; exact Nat.le_add_right _ _
        · rw [z]; exact Nat.le_refl _
      exact I1.fpOk hle (I1.hok.fresh hle)
def enumL (us : List U) : List U := us.zipIdx.map fun p => .tup [.int (p.2 : Nat), p.1]
theorem it_enumT {K : PySem.W.Frag} {H : Hp} {ρ : List Addr} {a : Addr} {us : List U} {vs : List V} (hs : SqT K H a vs) (hr : RepVs K H ρ us vs) : ItOk K ρ H (.seq (enumL us)) (IteT K a) := by
  intro i ρ' H' μ' ex tx hm
  have hs' := tx.seq hs
  have hr' := hr.mono tx ex
  have e0 : (enumL us)[i]? = (us[i]?).map fun u => U.tup [.int (i : Nat), u] := by
    unfold enumL
    rw [List.getElem?_map, List.getElem?_zipIdx, Option.map_map, Nat.zero_add]
    rfl
  simp only [itemAt, e0]
  cases h : us[i]? with
  | none =>
    simp only [Option.map_none]
    exact ⟨vs, hs', by rw [← RepVs.length hr']; exact List.getElem?_eq_none_iff.mp h⟩
  | some u =>
    simp only [Option.map_some]
    obtain ⟨x, hx, rx⟩ := RepVs.get hr' h
    refine ⟨⟨vs, x, hs', hx⟩, ?_⟩
    rintro y H'' ⟨T, x', rfl, nT, rfl, hall⟩
    have e2 := hall vs hs'
    rw [hx] at e2
    cases e2
    exact ⟨Stp.temp hm nT, newT nT (.cons .int (.one rx))⟩
section
variable {X : Cx} {W : WX}
/-- enumerate(list or tuple) -/
def iEnumA (a : FE) : FI := fun s μ => (a s μ).bind fun u μ1 => match u with
  | .tup us => .ok (.seq (enumL us)) μ1
  | .ref r => match listAt μ1 r with
    | some _ => .ok (.enum r) μ1
    | none => .bad
  | _ => .bad
theorem ci_enumA {tg a : Expr} {ma : FE} {p pos : Pos} (ha : CE X W a ma)
    (hp : ∀ {ta : TA}, PA X [a] ta → PI X tg (.Call (.Name "enumerate" p) [a] [] pos) (iEnumT X.K ta)) (hs1 : starEach [a] X.env = (false, eval a X.env) :: starEach [] X.env := by rfl) :
    CI X W tg (.Call (.Name "enumerate" p) [a] [] pos) (iEnumA ma) := by
  intro ρ μ s σ H R hs hm h
  refine ⟨_, hp (pa_cons pe_w pa_nil hs1), ?_⟩
  refine ha ρ μ s σ H _ hs hm (h.bind fun u μ1 x H1 ρ1 t1 r1 h1 => ?_)
  split at h1
  · cases r1 with
    | tup b1 b2 => exact ⟨_, rfl, .inr ⟨⟨_, b1⟩, h1.ok (Stp.refl t1.mem) (it_enumT b1 b2)⟩⟩
  · cases r1 with
    | ref b1 =>
      split at h1
      · rename_i e2
        obtain ⟨xs, q2, _⟩ := listAt_ok t1.mem b1 e2
        exact ⟨_, rfl, .inl ⟨⟨_, q2⟩, h1.ok (Stp.refl t1.mem) (it_enum b1)⟩⟩
      · exact h1.elim
  · exact h1.elim
end
end Dg
namespace Lw
open PySem PySem.Spec PyProof.Rows L2 RZ Dg
/-! ### the text by places -/
def top (i : Nat) : Stmt := PySem.Challenge.pw_doppelganger_k36_letters_and_texts.main.body.getD i (.Pass ⟨0, 0, 0, 0⟩)
abbrev s_answers_of : Stmt := top 10
abbrev N_answers_of : List Str := ["name", "arg", "kind", "value"]
theorem sc_answers_of : FnScope N_answers_of ["name", "arg", "kind"] (defScope s_answers_of) := ⟨rfl, rfl, rfl, by decide +kernel, rfl, by decide +kernel, by decide +kernel⟩
abbrev s_questions_of : Stmt := top 11
abbrev N_questions_of : List Str := ["decl", "name", "types", "_", "many", "of_type", "value"]
theorem sc_questions_of : FnScope N_questions_of ["decl"] (defScope s_questions_of) := ⟨rfl, rfl, rfl, by decide +kernel, rfl, by decide +kernel, by decide +kernel⟩
abbrev s_letters_of_args : Stmt := top 12
abbrev N_letters_of_args : List Str := ["decl", "name", "types", "_", "found", "at", "of_type"]
theorem sc_letters_of_args : FnScope N_letters_of_args ["decl"] (defScope s_letters_of_args) := ⟨rfl, rfl, rfl, by decide +kernel, rfl, by decide +kernel, by decide +kernel⟩
abbrev s_letters : Stmt := top 13
abbrev N_letters : List Str := ["decls", "kind", "found", "decl"]
theorem sc_letters : FnScope N_letters ["decls", "kind"] (defScope s_letters) := ⟨rfl, rfl, rfl, by decide +kernel, rfl, by decide +kernel, by decide +kernel⟩
abbrev s_is_other : Stmt := top 14
abbrev N_is_other : List Str := ["move", "name", "arg", "answers", "_"]
theorem sc_is_other : FnScope N_is_other ["move"] (defScope s_is_other) := ⟨rfl, rfl, rfl, by decide +kernel, rfl, by decide +kernel, by decide +kernel⟩
abbrev s_move_text : Stmt := top 15
abbrev N_move_text : List Str := ["decls", "move", "name", "arg", "answers", "value", "text", "types", "name_of_decl", "types_of_decl", "_"]
theorem sc_move_text : FnScope N_move_text ["decls", "move"] (defScope s_move_text) := ⟨rfl, rfl, rfl, by decide +kernel, rfl, by decide +kernel, by decide +kernel⟩
abbrev s_read_play : Stmt := top 16
abbrev N_read_play : List Str := ["decls", "kind", "text", "moves", "parts", "part", "move"]
theorem sc_read_play : FnScope N_read_play ["decls", "kind", "text"] (defScope s_read_play) := ⟨rfl, rfl, rfl, by decide +kernel, rfl, by decide +kernel, by decide +kernel⟩
abbrev s__law_cell : Stmt := top 18
abbrev N__law_cell : List Str := ["script", "k"]
theorem sc__law_cell : FnScope N__law_cell ["script", "k"] (defScope s__law_cell) := ⟨rfl, rfl, rfl, by decide +kernel, rfl, by decide +kernel, by decide +kernel⟩
abbrev s__law_numbers : Stmt := top 19
abbrev N__law_numbers : List Str := ["cell", "k", "many", "numbers", "rest", "j", "mixed", "twice"]
theorem sc__law_numbers : FnScope N__law_numbers ["cell", "k", "many"] (defScope s__law_numbers) := ⟨rfl, rfl, rfl, by decide +kernel, rfl, by decide +kernel, by decide +kernel⟩
abbrev s__law_decls : Stmt := top 20
abbrev N__law_decls : List Str := ["numbers", "names", "chosen", "decls", "k", "types", "j"]
theorem sc__law_decls : FnScope N__law_decls ["numbers"] (defScope s__law_decls) := ⟨rfl, rfl, rfl, by decide +kernel, rfl, by decide +kernel, by decide +kernel⟩
abbrev s__law_letters : Stmt := top 21
abbrev N__law_letters : List Str := ["decls", "kind", "rows", "name", "types", "result", "vals", "k", "head", "v", "one"]
theorem sc__law_letters : FnScope N__law_letters ["decls", "kind"] (defScope s__law_letters) := ⟨rfl, rfl, rfl, by decide +kernel, rfl, by decide +kernel, by decide +kernel⟩
abbrev s__law_is_other : Stmt := top 22
abbrev N__law_is_other : List Str := ["move"]
theorem sc__law_is_other : FnScope N__law_is_other ["move"] (defScope s__law_is_other) := ⟨rfl, rfl, rfl, by decide +kernel, rfl, by decide +kernel, by decide +kernel⟩
abbrev s__law_read : Stmt := top 23
abbrev N__law_read : List Str := ["decls", "kind", "text", "e"]
theorem sc__law_read : FnScope N__law_read ["decls", "kind", "text"] (defScope s__law_read) := ⟨rfl, rfl, rfl, by decide +kernel, rfl, by decide +kernel, by decide +kernel⟩
abbrev s__law_row : Stmt := top 24
abbrev N__law_row : List Str := ["decls", "kind", "rows", "numbers", "size", "chosen", "texts", "due", "at", "odd", "k", "one"]
theorem sc__law_row : FnScope N__law_row ["decls", "kind", "rows", "numbers"] (defScope s__law_row) := ⟨rfl, rfl, rfl, by decide +kernel, rfl, by decide +kernel, by decide +kernel⟩
abbrev s_law : Stmt := top 25
abbrev N_law : List Str := ["script", "first", "decls", "kind", "rows", "told", "text", "move", "k", "row"]
theorem sc_law : FnScope N_law ["script"] (defScope s_law) := ⟨rfl, rfl, rfl, by decide +kernel, rfl, by decide +kernel, by decide +kernel⟩
/-! ### the mirrors -/
abbrev Calls := Nat → List U → Mem → Res U
def b_answers_of (C : Calls) : FS :=
    (sRet (fLc (iRg1 (fIf (tstB (fOp uEq (fVar 2) (fC (.str "exp")))) (fC (.int 3)) (fC (.int 1)))) [3] (.one 3) tAll (fTup (aCons (fVar 0) (aCons (fVar 1) (aCons (fC (.bl true)) (aCons (fVar 3) aNil)))))))
def b_questions_of (C : Calls) : FS :=
    (sSeq (sAsg (.tup [1, 2, 3]) (fVar 0))
    (sSeq (sAsg (.one 4) (fC (.int 1)))
    (sSeq (sFor (iSeq (fVar 2)) (.one 5) (sIf (tstB (fOp uEq (fVar 5) (fC (.str "val")))) (sAsg (.one 4) (fOp uMul (fVar 4) (fC (.int 3)))) sNext))
    (sRet (fLc (iRg1 (fVar 4)) [6] (.one 6) tAll (fTup (aCons (fVar 1) (aCons (fC (.int 0)) (aCons (fC (.bl false)) (aCons (fVar 6) aNil))))))))))
def b_letters_of_args (C : Calls) : FS :=
    (sSeq (sAsg (.tup [1, 2, 3]) (fVar 0))
    (sSeq (sAsg (.one 4) (fLst aNil))
    (sSeq (sFor (iEnumA (fVar 2)) (.tup [5, 6]) (sIf (tstB (fOp uNe (fVar 6) (fC (.str "val")))) (sSeq (sExpr (fMtL gAppend (fVar 4) (aCons (fTup (aCons (fVar 1) (aCons (fOp uAdd (fVar 5) (fC (.int 1))) (aCons (fC (.bl false)) (aCons (fC (.int 0)) aNil))))) aNil)))
    (sExpr (fMtL gExt (fVar 4) (aCons (fDef 3 (C 0) (aCons (fVar 1) (aCons (fOp uAdd (fVar 5) (fC (.int 1))) (aCons (fVar 6) aNil)))) aNil)))) sNext))
    (sRet (fVar 4)))))
def b_letters (C : Calls) : FS :=
    (sSeq (sAsg (.one 2) (fLst (aCons (fC (.tup [(.str ""), (.int 0), (.bl false), (.int 0)])) (aStar (fDef 3 (C 0) (aCons (fC (.str "")) (aCons (fC (.int 0)) (aCons (fVar 1) aNil)))) (aCons (fC (.tup [(.str "!")])) aNil)))))
    (sSeq (sFor (iSeq (fVar 0)) (.one 3) (sSeq (sExpr (fMtL gExt (fVar 2) (aCons (fDef 1 (C 1) (aCons (fVar 3) aNil)) aNil)))
    (sSeq (sExpr (fMtL gExt (fVar 2) (aCons (fDef 3 (C 0) (aCons (fOp ixU (fVar 3) (fC (.int 0))) (aCons (fC (.int 0)) (aCons (fOp ixU (fVar 3) (fC (.int 2))) aNil)))) aNil)))
    (sExpr (fMtL gExt (fVar 2) (aCons (fDef 1 (C 2) (aCons (fVar 3) aNil)) aNil))))))
    (sRet (fVar 2))))
def b_is_other (C : Calls) : FS :=
    (sSeq (sIf (tstB (fOp uEq (fVar 0) (fC (.tup [(.str "!")])))) (sRet (fC (.bl false))) sNext)
    (sSeq (sAsg (.tup [1, 2, 3, 4]) (fVar 0))
    (sRet (fOp uNe (fOr (fOp uEq (fVar 1) (fC (.str ""))) (fOp uGt (fVar 2) (fC (.int 0)))) (fVar 3)))))
def b_move_text (C : Calls) : FS :=
    (sSeq (sIf (tstB (fOp uEq (fVar 1) (fC (.tup [(.str "!")])))) (sRet (fC (.str "!!"))) sNext)
    (sSeq (sAsg (.tup [2, 3, 4, 5]) (fVar 1))
    (sSeq (sAsg (.one 6) (fIf (tstB (fOp uEq (fVar 3) (fC (.int 0)))) (fVar 2) (fJs [(fFmt (fVar 2)), (fC (.str ".")), (fFmt (fVar 3))] Str.empty)))
    (sSeq (sIf (tst (fVar 4)) (sRet (fJs [(fFmt (fVar 6)), (fC (.str "!")), (fFmt (fVar 5))] Str.empty)) sNext)
    (sSeq (sAsg (.one 7) (fDcK (iSeq (fVar 0)) [8, 9, 10] (.tup [8, 9, 10]) tAll (fVar 8) (fVar 9)))
    (sSeq (sIf (tAn (tstB (fOp uEq (fVar 3) (fC (.int 0)))) (tstB (fOp uIn (fC (.str "val")) (fGet (fVar 7) (fVar 2) (fTup aNil))))) (sRet (fJs [(fFmt (fVar 6)), (fC (.str "?")), (fFmt (fVar 5))] Str.empty)) sNext)
    (sRet (fJs [(fFmt (fVar 6)), (fC (.str "?"))] Str.empty))))))))
def b_read_play (C : Calls) : FS :=
    (sSeq (sAsg (.one 3) (fDcK (iSeq (fDef 2 (C 3) (aCons (fVar 0) (aCons (fVar 1) aNil)))) [6] (.one 6) tAll (fDef 2 (C 5) (aCons (fVar 0) (aCons (fVar 6) aNil))) (fVar 6)))
    (sSeq (sAsg (.one 4) (fIf (tst (fVar 2)) (fMtS gSplit (fVar 2) (aCons (fC (.str " ")) aNil)) (fLst aNil)))
    (sSeq (sIf (tstB (fOp uGt (fCall bLen (aCons (fVar 4) aNil)) (fC (.int 40)))) (sRaise "BadForm" (fJs [(fC (.str "there are more than ")), (fFmt (fC (.int 40))), (fC (.str " moves"))] Str.empty)) sNext)
    (sSeq (sFor (iSeq (fVar 4)) (.one 5) (sIf (tstB (fOp uNin (fVar 5) (fVar 3))) (sRaise "BadForm" (fJs [(fFmtR (fVar 5)), (fC (.str " is not the text of a letter"))] Str.empty)) sNext))
    (sRet (fLc (iSeq (fVar 4)) [5] (.one 5) tAll (fOp ixU (fVar 3) (fVar 5))))))))
def b__law_cell (C : Calls) : FS :=
    (sSeq (sIf (tstB (fOp uLt (fVar 1) (fCall bLen (aCons (fVar 0) aNil)))) (sRet (fOp ixU (fVar 0) (fVar 1))) sNext)
    (sRet (fC (.int 0))))
def b__law_numbers (C : Calls) : FS :=
    (sSeq (sAsg (.one 3) (fLst aNil))
    (sSeq (sIf (tstB (fOp uGeX (fVar 0) (fOp uPow (fC (.int 10)) (fC (.int 18))))) (sSeq (sAsg (.one 4) (fVar 0))
    (sSeq (sFor (iRg1 (fVar 2)) (.one 5) (sSeq (sExpr (fMtL gAppend (fVar 3) (aCons (fOp uMod (fCall bInt (aCons (fVar 4) aNil)) (fC (.int 1000))) aNil)))
    (sAsg (.one 4) (fOp uFdiv (fVar 4) (fC (.int 1000))))))
    (sRet (fVar 3)))) sNext)
    (sSeq (sAsg (.one 6) (fOp uMod (fCall bInt (aCons (fOp uAdd (fOp uAdd (fOp uMul (fVar 0) (fC (.int 48271))) (fOp uMul (fVar 1) (fC (.int 69621)))) (fC (.int 11))) aNil)) (fC (.int 2147483647))))
    (sSeq (sFor (iRg1 (fVar 2)) (.one 5) (sSeq (sAsg (.one 6) (fOp uMod (fCall bInt (aCons (fOp uAdd (fOp uAdd (fOp uMul (fVar 6) (fC (.int 16807))) (fOp uMul (fVar 5) (fC (.int 7919)))) (fC (.int 13))) aNil)) (fC (.int 2147483647))))
    (sSeq (sAsg (.one 7) (fOp uMod (fCall bInt (aCons (fOp uAdd (fOp uAdd (fOp uMul (fVar 6) (fVar 6)) (fOp uMul (fVar 1) (fC (.int 31)))) (fVar 5)) aNil)) (fC (.int 1000000007))))
    (sExpr (fMtL gAppend (fVar 3) (aCons (fOp uMod (fCall bInt (aCons (fOp uFdiv (fVar 7) (fC (.int 101))) aNil)) (fC (.int 1000))) aNil))))))
    (sRet (fVar 3))))))
def b__law_decls (C : Calls) : FS :=
    (sSeq (sAsg (.one 1) (fLst (aCons (fC (.str "a")) (aCons (fC (.str "f")) (aCons (fC (.str "fa")) (aCons (fC (.str "zzzz")) (aCons (fC (.str "b")) (aCons (fC (.str "hole")) aNil))))))))
    (sSeq (sAsg (.one 2) (fCall bSortedX (aCons (fLc (iRg1 (fOp uMod (fCall bInt (aCons (fOp ixU (fVar 0) (fC (.int 9))) aNil)) (fC (.int 4)))) [4] (.one 4) tAll (fOp ixU (fVar 1) (fOp uMod (fCall bInt (aCons (fOp ixU (fVar 0) (fVar 4)) aNil)) (fC (.int 6))))) aNil)))
    (sSeq (sAsg (.one 3) (fLst aNil))
    (sSeq (sFor (iRg1 (fCall bLen (aCons (fVar 2) aNil))) (.one 4) (sIf (tOr' (tstB (fOp uEq (fVar 4) (fC (.int 0)))) (tstB (fOp uNe (fOp ixU (fVar 2) (fVar 4)) (fOp ixU (fVar 2) (fOp uSub (fVar 4) (fC (.int 1))))))) (sSeq (sAsg (.one 5) (fLc (iRg1 (fOp uMod (fOp uFdiv (fCall bInt (aCons (fOp ixU (fVar 0) (fVar 4)) aNil)) (fC (.int 6))) (fC (.int 3)))) [6] (.one 6) tAll (fOp ixU (fLst (aCons (fC (.str "com")) (aCons (fC (.str "exp")) (aCons (fC (.str "val")) aNil)))) (fOp uMod (fCall bInt (aCons (fOp ixU (fVar 0) (fOp uAdd (fOp uAdd (fC (.int 3)) (fOp uMul (fC (.int 2)) (fCall bLen (aCons (fVar 3) aNil)))) (fVar 6))) aNil)) (fC (.int 3))))))
    (sExpr (fMtL gAppend (fVar 3) (aCons (fTup (aCons (fOp ixU (fVar 2) (fVar 4)) (aCons (fCall bTuple (aCons (fVar 5) aNil)) (aCons (fOp ixU (fLst (aCons (fC (.str "com")) (aCons (fC (.str "exp")) aNil))) (fOp uMod (fOp uFdiv (fCall bInt (aCons (fOp ixU (fVar 0) (fVar 4)) aNil)) (fC (.int 18))) (fC (.int 2)))) aNil)))) aNil)))) sNext))
    (sRet (fCall bTuple (aCons (fVar 3) aNil)))))))
def b__law_letters (C : Calls) : FS :=
    (sSeq (sAsg (.one 2) (fLst (aCons (fTup (aCons (fC (.str "?")) (aCons (fTup (aCons (fC (.str "")) (aCons (fC (.int 0)) (aCons (fC (.bl false)) (aCons (fC (.int 0)) aNil))))) aNil))) aNil)))
    (sSeq (sAsg (.one 2) (fOp uAdd (fVar 2) (fLc (iRg1 (fOp ixU (fLst (aCons (fC (.int 1)) (aCons (fC (.int 3)) aNil))) (fCall bInt (aCons (fOp uEq (fVar 1) (fC (.str "exp"))) aNil)))) [9] (.one 9) tAll (fTup (aCons (fOp uAdd (fC (.str "!")) (fCall bStr (aCons (fVar 9) aNil))) (aCons (fTup (aCons (fC (.str "")) (aCons (fC (.int 0)) (aCons (fC (.bl true)) (aCons (fVar 9) aNil))))) aNil))))))
    (sSeq (sExpr (fMtL gAppend (fVar 2) (aCons (fTup (aCons (fC (.str "!!")) (aCons (fTup (aCons (fC (.str "!")) aNil)) aNil))) aNil)))
    (sSeq (sFor (iSeq (fVar 0)) (.tup [3, 4, 5]) (sSeq (sAsg (.one 6) (fCall bLen (aCons (fLc (iSeq (fVar 4)) [10] (.one 10) (tstB (fOp uEq (fVar 10) (fC (.str "val")))) (fVar 10)) aNil)))
    (sSeq (sIf (tstB (fOp uEq (fVar 6) (fC (.int 0)))) (sExpr (fMtL gAppend (fVar 2) (aCons (fTup (aCons (fOp uAdd (fVar 3) (fC (.str "?"))) (aCons (fTup (aCons (fVar 3) (aCons (fC (.int 0)) (aCons (fC (.bl false)) (aCons (fC (.int 0)) aNil))))) aNil))) aNil))) (sAsg (.one 2) (fOp uAdd (fVar 2) (fLc (iRg1 (fOp ixU (fLst (aCons (fC (.int 0)) (aCons (fC (.int 3)) (aCons (fC (.int 9)) aNil)))) (fVar 6))) [9] (.one 9) tAll (fTup (aCons (fOp uAdd (fOp uAdd (fVar 3) (fC (.str "?"))) (fCall bStr (aCons (fVar 9) aNil))) (aCons (fTup (aCons (fVar 3) (aCons (fC (.int 0)) (aCons (fC (.bl false)) (aCons (fVar 9) aNil))))) aNil)))))))
    (sSeq (sAsg (.one 2) (fOp uAdd (fVar 2) (fLc (iRg1 (fOp ixU (fLst (aCons (fC (.int 1)) (aCons (fC (.int 3)) aNil))) (fCall bInt (aCons (fOp uEq (fVar 5) (fC (.str "exp"))) aNil)))) [9] (.one 9) tAll (fTup (aCons (fOp uAdd (fOp uAdd (fVar 3) (fC (.str "!"))) (fCall bStr (aCons (fVar 9) aNil))) (aCons (fTup (aCons (fVar 3) (aCons (fC (.int 0)) (aCons (fC (.bl true)) (aCons (fVar 9) aNil))))) aNil))))))
    (sFor (iRg1 (fCall bLen (aCons (fVar 4) aNil))) (.one 7) (sSeq (sAsg (.one 8) (fOp uAdd (fOp uAdd (fVar 3) (fC (.str "."))) (fCall bStr (aCons (fOp uAdd (fVar 7) (fC (.int 1))) aNil))))
    (sIf (tstB (fOp uNe (fOp ixU (fVar 4) (fVar 7)) (fC (.str "val")))) (sSeq (sExpr (fMtL gAppend (fVar 2) (aCons (fTup (aCons (fOp uAdd (fVar 8) (fC (.str "?"))) (aCons (fTup (aCons (fVar 3) (aCons (fOp uAdd (fVar 7) (fC (.int 1))) (aCons (fC (.bl false)) (aCons (fC (.int 0)) aNil))))) aNil))) aNil)))
    (sAsg (.one 2) (fOp uAdd (fVar 2) (fLc (iRg1 (fOp ixU (fLst (aCons (fC (.int 1)) (aCons (fC (.int 3)) aNil))) (fCall bInt (aCons (fOp uEq (fOp ixU (fVar 4) (fVar 7)) (fC (.str "exp"))) aNil)))) [9] (.one 9) tAll (fTup (aCons (fOp uAdd (fOp uAdd (fVar 8) (fC (.str "!"))) (fCall bStr (aCons (fVar 9) aNil))) (aCons (fTup (aCons (fVar 3) (aCons (fOp uAdd (fVar 7) (fC (.int 1))) (aCons (fC (.bl true)) (aCons (fVar 9) aNil))))) aNil))))))) sNext)))))))
    (sRet (fVar 2))))))
def b__law_is_other (C : Calls) : FS :=
    (sSeq (sIf (tstB (fOp uEq (fCall bLen (aCons (fVar 0) aNil)) (fC (.int 1)))) (sRet (fC (.bl false))) sNext)
    (sSeq (sIf (tstB (fOp uEq (fOp ixU (fVar 0) (fC (.int 0))) (fC (.str "")))) (sRet (fNot (fOp ixU (fVar 0) (fC (.int 2))))) sNext)
    (sRet (fOr (fAnd (fOp ixU (fVar 0) (fC (.int 2))) (fOp uEq (fOp ixU (fVar 0) (fC (.int 1))) (fC (.int 0)))) (fAnd (fNot (fOp ixU (fVar 0) (fC (.int 2)))) (fOp uGt (fOp ixU (fVar 0) (fC (.int 1))) (fC (.int 0))))))))
def b__law_read (C : Calls) : FS :=
    (sTryAs [("DoppelError", false), ("NotAllowed", false), ("BadForm", true), ("BadName", false)] 3 (sRet (fDef 3 (C 6) (aCons (fVar 0) (aCons (fVar 1) (aCons (fVar 2) aNil))))) (fun c => (fLst (aCons (fC (.str "refused")) (aCons (fAnd (fIsX [("DoppelError", true), ("NotAllowed", true), ("BadForm", true), ("BadName", true)] c) (fNot (fIsX [("DoppelError", false || false), ("NotAllowed", false || true), ("BadForm", false || false), ("BadName", true || false)] c))) aNil)))))
def b__law_row (C : Calls) : FS :=
    (sSeq (sAsg (.one 4) (fOp uMod (fCall bInt (aCons (fOp ixU (fVar 3) (fC (.int 0))) aNil)) (fOp ixU (fLst (aCons (fC (.int 6)) (aCons (fC (.int 42)) aNil))) (fOp uMod (fCall bInt (aCons (fOp ixU (fVar 3) (fC (.int 1))) aNil)) (fC (.int 2))))))
    (sSeq (sAsg (.one 5) (fLc (iRg1 (fVar 4)) [10] (.one 10) tAll (fOp ixU (fVar 2) (fOp uMod (fCall bInt (aCons (fOp uAdd (fOp ixU (fVar 3) (fOp uAdd (fC (.int 2)) (fOp uMod (fCall bInt (aCons (fVar 10) aNil)) (fC (.int 12))))) (fOp uMul (fC (.int 7)) (fVar 10))) aNil)) (fCall bLen (aCons (fVar 2) aNil))))))
    (sSeq (sAsg (.one 6) (fLc (iSeq (fVar 5)) [11] (.one 11) tAll (fOp ixU (fVar 11) (fC (.int 0)))))
    (sSeq (sAsg (.one 7) (fLc (iSeq (fVar 5)) [11] (.one 11) tAll (fOp ixU (fVar 11) (fC (.int 1)))))
    (sSeq (sIf (tstB (fOp uGt (fVar 4) (fC (.int 40)))) (sAsg (.one 7) (fLst (aCons (fC (.str "refused")) (aCons (fC (.bl true)) aNil)))) sNext)
    (sSeq (sIf (tstB (fOp uNe (fDef 3 (C 12) (aCons (fVar 0) (aCons (fVar 1) (aCons (fMtS gJoin (fC (.str " ")) (aCons (fVar 6) aNil)) aNil)))) (fVar 7))) (sRet (fC (.bl false))) sNext)
    (sSeq (sIf (tstB (fOp uEq (fVar 4) (fC (.int 0)))) (sRet (fC (.bl true))) sNext)
    (sSeq (sAsg (.one 8) (fOp uMod (fCall bInt (aCons (fOp ixU (fVar 3) (fC (.int 3))) aNil)) (fVar 4)))
    (sSeq (sAsg (.one 9) (fOp ixU (fLst (aCons (fC (.str "")) (aCons (fC (.str "x?")) (aCons (fC (.str "!3")) (aCons (fC (.str "??")) (aCons (fC (.str "f")) (aCons (fC (.str "? ")) (aCons (fC (.str "!")) (aCons (fC (.str "a.3?")) (aCons (fC (.str "hole!9")) (aCons (fC (.str "f.0?")) (aCons (fC (.str "?0")) aNil)))))))))))) (fOp uMod (fCall bInt (aCons (fOp ixU (fVar 3) (fC (.int 4))) aNil)) (fC (.int 11)))))
    (sSeq (sStore (fVar 6) (fVar 8) (fVar 9))
    (sRet (fOr (fOp uGt (fVar 4) (fC (.int 40))) (fOr (fOp uEq (fDef 3 (C 12) (aCons (fVar 0) (aCons (fVar 1) (aCons (fMtS gJoin (fC (.str " ")) (aCons (fVar 6) aNil)) aNil)))) (fLst (aCons (fC (.str "refused")) (aCons (fC (.bl true)) aNil)))) (fAnd (fOp uEq (fVar 4) (fC (.int 1))) (fOp uEq (fVar 9) (fC (.str "")))))))))))))))))
def b_law (C : Calls) : FS :=
    (sSeq (sAsg (.one 1) (fDef 3 (C 8) (aCons (fDef 2 (C 7) (aCons (fVar 0) (aCons (fC (.int 0)) aNil))) (aCons (fC (.int 0)) (aCons (fC (.int 10)) aNil)))))
    (sSeq (sAsg (.one 2) (fDef 1 (C 9) (aCons (fVar 1) aNil)))
    (sSeq (sFor (iSeq (fTup (aCons (fC (.str "com")) (aCons (fC (.str "exp")) aNil)))) (.one 3) (sSeq (sAsg (.one 4) (fDef 2 (C 10) (aCons (fVar 2) (aCons (fVar 3) aNil))))
    (sSeq (sAsg (.one 5) (fDef 2 (C 3) (aCons (fVar 2) (aCons (fVar 3) aNil))))
    (sSeq (sIf (tOr' (tNt (tst (fIsi "list" (fVar 5)))) (tstB (fOp uNe (fVar 5) (fLc (iSeq (fVar 4)) [9] (.one 9) tAll (fOp ixU (fVar 9) (fC (.int 1))))))) (sRet (fC (.bl false))) sNext)
    (sSeq (sExpr (fMtL gAppend (fVar 5) (aCons (fC (.tup [(.str "!")])) aNil)))
    (sSeq (sIf (tstB (fOp uNe (fDef 2 (C 3) (aCons (fVar 2) (aCons (fVar 3) aNil))) (fLc (iSeq (fVar 4)) [9] (.one 9) tAll (fOp ixU (fVar 9) (fC (.int 1)))))) (sRet (fC (.bl false))) sNext)
    (sSeq (sFor (iSeq (fVar 4)) (.tup [6, 7]) (sIf (tOr' (tstB (fOp uNe (fDef 2 (C 5) (aCons (fVar 2) (aCons (fVar 7) aNil))) (fVar 6))) (tstB (fOp uNe (fDef 1 (C 4) (aCons (fVar 7) aNil)) (fDef 1 (C 11) (aCons (fVar 7) aNil))))) (sRet (fC (.bl false))) sNext))
    (sFor (iRg2 (fC (.int 1)) (fCall bMax (aCons (fC (.int 2)) (aCons (fCall bMin (aCons (fCall bLen (aCons (fVar 0) aNil)) (aCons (fC (.int 9)) aNil))) aNil)))) (.one 8) (sIf (tNt (tst (fDef 4 (C 13) (aCons (fVar 2) (aCons (fVar 3) (aCons (fVar 4) (aCons (fDef 3 (C 8) (aCons (fDef 2 (C 7) (aCons (fVar 0) (aCons (fVar 8) aNil))) (aCons (fVar 8) (aCons (fC (.int 14)) aNil)))) aNil))))))) (sRet (fC (.bl false))) sNext)))))))))
    (sRet (fAnd (fOp uEq (fDef 3 (C 6) (aCons (fVar 2) (aCons (fC (.str "com")) (aCons (fC (.str "")) aNil)))) (fLst aNil)) (fAnd (fOp uEq (fC (.tup [(.str ""), (.int 0), (.bl false), (.int 0)])) (fTup (aCons (fC (.str "")) (aCons (fC (.int 0)) (aCons (fC (.bl false)) (aCons (fC (.int 0)) aNil)))))) (fAnd (fOp uEq (fC (.tup [(.str "!")])) (fTup (aCons (fC (.str "!")) aNil))) (fOp uEq (fC (.int 40)) (fC (.int 40))))))))))
def call : Nat → Calls
  | 0 => fun _ _ _ => .bad
  | k + 1 => fun i => match i with
    | 0 => runDef 4 (b_answers_of (call k))
    | 1 => runDef 7 (b_questions_of (call k))
    | 2 => runDef 7 (b_letters_of_args (call k))
    | 3 => runDef 4 (b_letters (call k))
    | 4 => runDef 5 (b_is_other (call k))
    | 5 => runDef 11 (b_move_text (call k))
    | 6 => runDef 7 (b_read_play (call k))
    | 7 => runDef 2 (b__law_cell (call k))
    | 8 => runDef 8 (b__law_numbers (call k))
    | 9 => runDef 7 (b__law_decls (call k))
    | 10 => runDef 11 (b__law_letters (call k))
    | 11 => runDef 1 (b__law_is_other (call k))
    | 12 => runDef 4 (b__law_read (call k))
    | 13 => runDef 12 (b__law_row (call k))
    | 14 => runDef 10 (b_law (call k))
    | _ => fun _ _ => .bad
theorem call_answers_of (k : Nat) : call (k + 1) 0 = runDef 4 (b_answers_of (call k)) := rfl
theorem call_questions_of (k : Nat) : call (k + 1) 1 = runDef 7 (b_questions_of (call k)) := rfl
theorem call_letters_of_args (k : Nat) : call (k + 1) 2 = runDef 7 (b_letters_of_args (call k)) := rfl
theorem call_letters (k : Nat) : call (k + 1) 3 = runDef 4 (b_letters (call k)) := rfl
theorem call_is_other (k : Nat) : call (k + 1) 4 = runDef 5 (b_is_other (call k)) := rfl
theorem call_move_text (k : Nat) : call (k + 1) 5 = runDef 11 (b_move_text (call k)) := rfl
theorem call_read_play (k : Nat) : call (k + 1) 6 = runDef 7 (b_read_play (call k)) := rfl
theorem call__law_cell (k : Nat) : call (k + 1) 7 = runDef 2 (b__law_cell (call k)) := rfl
theorem call__law_numbers (k : Nat) : call (k + 1) 8 = runDef 8 (b__law_numbers (call k)) := rfl
theorem call__law_decls (k : Nat) : call (k + 1) 9 = runDef 7 (b__law_decls (call k)) := rfl
theorem call__law_letters (k : Nat) : call (k + 1) 10 = runDef 11 (b__law_letters (call k)) := rfl
theorem call__law_is_other (k : Nat) : call (k + 1) 11 = runDef 1 (b__law_is_other (call k)) := rfl
theorem call__law_read (k : Nat) : call (k + 1) 12 = runDef 4 (b__law_read (call k)) := rfl
theorem call__law_row (k : Nat) : call (k + 1) 13 = runDef 12 (b__law_row (call k)) := rfl
theorem call_law (k : Nat) : call (k + 1) 14 = runDef 10 (b_law (call k)) := rfl
/-! ### what stands in the top -/
structure Facts (K : PySem.W.Frag) (mg : Str → Option Value) (w : World) (ad : Nat → Addr) (fd : Nat → FuncData) : Prop where
  F0 : FnP K "answers_of" s_answers_of (ad 0) (fd 0)
  b0 : Binds K (fd 0) ["name", "arg", "kind"] []
  m0 : mg "answers_of" = some (.ref (ad 0))
  F1 : FnP K "questions_of" s_questions_of (ad 1) (fd 1)
  b1 : Binds K (fd 1) ["decl"] []
  m1 : mg "questions_of" = some (.ref (ad 1))
  F2 : FnP K "letters_of_args" s_letters_of_args (ad 2) (fd 2)
  b2 : Binds K (fd 2) ["decl"] []
  m2 : mg "letters_of_args" = some (.ref (ad 2))
  F3 : FnP K "letters" s_letters (ad 3) (fd 3)
  b3 : Binds K (fd 3) ["decls", "kind"] []
  m3 : mg "letters" = some (.ref (ad 3))
  F4 : FnP K "is_other" s_is_other (ad 4) (fd 4)
  b4 : Binds K (fd 4) ["move"] []
  m4 : mg "is_other" = some (.ref (ad 4))
  F5 : FnP K "move_text" s_move_text (ad 5) (fd 5)
  b5 : Binds K (fd 5) ["decls", "move"] []
  m5 : mg "move_text" = some (.ref (ad 5))
  F6 : FnP K "read_play" s_read_play (ad 6) (fd 6)
  b6 : Binds K (fd 6) ["decls", "kind", "text"] []
  m6 : mg "read_play" = some (.ref (ad 6))
  F7 : FnP K "_law_cell" s__law_cell (ad 7) (fd 7)
  b7 : Binds K (fd 7) ["script", "k"] []
  m7 : mg "_law_cell" = some (.ref (ad 7))
  F8 : FnP K "_law_numbers" s__law_numbers (ad 8) (fd 8)
  b8 : Binds K (fd 8) ["cell", "k", "many"] []
  m8 : mg "_law_numbers" = some (.ref (ad 8))
  F9 : FnP K "_law_decls" s__law_decls (ad 9) (fd 9)
  b9 : Binds K (fd 9) ["numbers"] []
  m9 : mg "_law_decls" = some (.ref (ad 9))
  F10 : FnP K "_law_letters" s__law_letters (ad 10) (fd 10)
  b10 : Binds K (fd 10) ["decls", "kind"] []
  m10 : mg "_law_letters" = some (.ref (ad 10))
  F11 : FnP K "_law_is_other" s__law_is_other (ad 11) (fd 11)
  b11 : Binds K (fd 11) ["move"] []
  m11 : mg "_law_is_other" = some (.ref (ad 11))
  F12 : FnP K "_law_read" s__law_read (ad 12) (fd 12)
  b12 : Binds K (fd 12) ["decls", "kind", "text"] []
  m12 : mg "_law_read" = some (.ref (ad 12))
  F13 : FnP K "_law_row" s__law_row (ad 13) (fd 13)
  b13 : Binds K (fd 13) ["decls", "kind", "rows", "numbers"] []
  m13 : mg "_law_row" = some (.ref (ad 13))
  F14 : FnP K "law" s_law (ad 14) (fd 14)
  b14 : Binds K (fd 14) ["script"] []
  m14 : mg "law" = some (.ref (ad 14))
  z_enumerate : mg "enumerate" = none
  z_int : mg "int" = none
  z_isinstance : mg "isinstance" = none
  z_len : mg "len" = none
  z_list : mg "list" = none
  z_max : mg "max" = none
  z_min : mg "min" = none
  z_range : mg "range" = none
  z_sorted : mg "sorted" = none
  z_str : mg "str" = none
  z_tuple : mg "tuple" = none
  c_FAULT : GlobC K mg "FAULT" (.tup [(.str "!")])
  c_MAX_PLAY : GlobC K mg "MAX_PLAY" (.int 40)
  c_QUESTION : GlobC K mg "QUESTION" (.tup [(.str ""), (.int 0), (.bl false), (.int 0)])
  c_WIDTH : GlobC K mg "WIDTH" (.int 3)
  x_BadForm : Exn K mg "BadForm"
  xm_BadForm_BadForm : Exm K mg "BadForm" "BadForm" true
  xm_BadName_BadForm : Exm K mg "BadName" "BadForm" false
  xm_DoppelError_BadForm : Exm K mg "DoppelError" "BadForm" false
  xm_NotAllowed_BadForm : Exm K mg "NotAllowed" "BadForm" false
  is_BadForm_BadName : Isx K mg "BadForm" "BadName" false
  is_BadForm_DoppelError : Isx K mg "BadForm" "DoppelError" true
  is_BadForm_NotAllowed : Isx K mg "BadForm" "NotAllowed" false
  is_BadName_BadName : Isx K mg "BadName" "BadName" true
  is_BadName_DoppelError : Isx K mg "BadName" "DoppelError" true
  is_BadName_NotAllowed : Isx K mg "BadName" "NotAllowed" false
  is_DoppelError_BadName : Isx K mg "DoppelError" "BadName" false
  is_DoppelError_DoppelError : Isx K mg "DoppelError" "DoppelError" true
  is_DoppelError_NotAllowed : Isx K mg "DoppelError" "NotAllowed" false
  is_NotAllowed_BadName : Isx K mg "NotAllowed" "BadName" false
  is_NotAllowed_DoppelError : Isx K mg "NotAllowed" "DoppelError" true
  is_NotAllowed_NotAllowed : Isx K mg "NotAllowed" "NotAllowed" true
structure Tab (P : Program) (w : World) (K : PySem.W.Frag) (mg : Str → Option Value) (base : Heap) (ad : Nat → Addr) (fd : Nat → FuncData) (k : Nat) (C : Calls) : Prop where
  G0 : FnOk P w K mg base (L2.CX P w) k (ad 0) (fd 0) ["name", "arg", "kind"] (spF K mg 3 (C 0))
  G1 : FnOk P w K mg base (L2.CX P w) k (ad 1) (fd 1) ["decl"] (spF K mg 1 (C 1))
  G2 : FnOk P w K mg base (L2.CX P w) k (ad 2) (fd 2) ["decl"] (spF K mg 1 (C 2))
  G3 : FnOk P w K mg base (L2.CX P w) k (ad 3) (fd 3) ["decls", "kind"] (spF K mg 2 (C 3))
  G4 : FnOk P w K mg base (L2.CX P w) k (ad 4) (fd 4) ["move"] (spF K mg 1 (C 4))
  G5 : FnOk P w K mg base (L2.CX P w) k (ad 5) (fd 5) ["decls", "move"] (spF K mg 2 (C 5))
  G6 : FnOk P w K mg base (L2.CX P w) k (ad 6) (fd 6) ["decls", "kind", "text"] (spF K mg 3 (C 6))
  G7 : FnOk P w K mg base (L2.CX P w) k (ad 7) (fd 7) ["script", "k"] (spF K mg 2 (C 7))
  G8 : FnOk P w K mg base (L2.CX P w) k (ad 8) (fd 8) ["cell", "k", "many"] (spF K mg 3 (C 8))
  G9 : FnOk P w K mg base (L2.CX P w) k (ad 9) (fd 9) ["numbers"] (spF K mg 1 (C 9))
  G10 : FnOk P w K mg base (L2.CX P w) k (ad 10) (fd 10) ["decls", "kind"] (spF K mg 2 (C 10))
  G11 : FnOk P w K mg base (L2.CX P w) k (ad 11) (fd 11) ["move"] (spF K mg 1 (C 11))
  G12 : FnOk P w K mg base (L2.CX P w) k (ad 12) (fd 12) ["decls", "kind", "text"] (spF K mg 3 (C 12))
  G13 : FnOk P w K mg base (L2.CX P w) k (ad 13) (fd 13) ["decls", "kind", "rows", "numbers"] (spF K mg 4 (C 13))
  G14 : FnOk P w K mg base (L2.CX P w) k (ad 14) (fd 14) ["script"] (spF K mg 1 (C 14))
section
variable {P : Program} {w : World} {K : PySem.W.Frag} {mg : Str → Option Value} {base : Heap} {ad : Nat → Addr} {fd : Nat → FuncData} {k : Nat} {C : Calls}
end
end Lw
namespace Lw
open PySem PySem.Spec PyProof.Rows L2 RZ Dg
section
variable {P : Program} {w : World} {K : PySem.W.Frag} {mg : Str → Option Value} {base : Heap} {ad : Nat → Addr} {fd : Nat → FuncData} {k : Nat} {C : Calls}
theorem ok_answers_of (Fx : Facts K mg w ad fd) (T : Tab P w K mg base ad fd (k + 40) C) : FnOk P w K mg base (L2.CX P w) (k + 41) (ad 0) (fd 0) ["name", "arg", "kind"] (spF K mg 3 (runDef 4 (b_answers_of C))) :=
  defD_ok (N := N_answers_of) (ps := ["name", "arg", "kind"]) Fx.F0 sc_answers_of (fun cdv A outer s H E G =>
    (css_one (cs_ret (ce_lc (own := [("value", 3)]) G sc_answers_of.nd (blkOk_by (own := [("value", 3)]) (N := N_answers_of) (sc := defScope s_answers_of) (by decide +kernel)) (ci_rg1 rfl Fx.z_range (ce_if (ct_cmp (os_eq G) (ce_var 2) ce_str (nomark _)) (ce_globC rfl Fx.c_WIDTH) ce_int)) (fun s0 H0 C0 cl fp => (cg_one (i := 3) sc_answers_of.nd rfl (Or.inl rfl))) (fun s0 H0 C0 cl fp => cts_nil) (fun s0 H0 C0 cl fp => (ce_tup (ca_cons (ce_var 0) (ca_cons (ce_var 1) (ca_cons ce_bl (ca_cons (ce_var 3) ca_nil)))))) rfl))))
end
end Lw
namespace Lw
open PySem PySem.Spec PyProof.Rows L2 RZ Dg
section
variable {P : Program} {w : World} {K : PySem.W.Frag} {mg : Str → Option Value} {base : Heap} {ad : Nat → Addr} {fd : Nat → FuncData} {k : Nat} {C : Calls}
theorem ok_questions_of (Fx : Facts K mg w ad fd) (T : Tab P w K mg base ad fd (k + 40) C) : FnOk P w K mg base (L2.CX P w) (k + 41) (ad 1) (fd 1) ["decl"] (spF K mg 1 (runDef 7 (b_questions_of C))) :=
  defD_ok (N := N_questions_of) (ps := ["decl"]) Fx.F1 sc_questions_of (fun cdv A outer s H E G =>
    (css_cons (cs_asg (ce_var 0) (cg_tup G.calm (cgs_cons (cg_one (i := 1) sc_questions_of.nd rfl (Or.inr rfl)) (cgs_cons (cg_one (i := 2) sc_questions_of.nd rfl (Or.inl rfl)) (cgs_cons (cg_one (i := 3) sc_questions_of.nd rfl (Or.inl rfl)) cgs_nil)))) (fun he hg => ps_asg he hg))
    (css_cons (cs_set (i := 4) sc_questions_of.nd rfl (Or.inl rfl) ce_int)
    (css_cons (cs_for G (ci_seq (ce_var 2)) (cg_one (i := 5) sc_questions_of.nd rfl (Or.inl rfl)) (css_one (cs_if (ct_cmp (os_eq G) (ce_var 5) ce_str (nomark _)) (css_one (cs_set (i := 4) sc_questions_of.nd rfl (Or.inl rfl) (ce_op os_mul (ce_var 4) (ce_globC rfl Fx.c_WIDTH)))) css_nil)))
    (css_one (cs_ret (ce_lc (own := [("value", 6)]) G sc_questions_of.nd (blkOk_by (own := [("value", 6)]) (N := N_questions_of) (sc := defScope s_questions_of) (by decide +kernel)) (ci_rg1 rfl Fx.z_range (ce_var 4)) (fun s0 H0 C0 cl fp => (cg_one (i := 6) sc_questions_of.nd rfl (Or.inl rfl))) (fun s0 H0 C0 cl fp => cts_nil) (fun s0 H0 C0 cl fp => (ce_tup (ca_cons (ce_var 1) (ca_cons ce_int (ca_cons ce_bl (ca_cons (ce_var 6) ca_nil)))))) rfl)))))))
end
end Lw
namespace Lw
open PySem PySem.Spec PyProof.Rows L2 RZ Dg
section
variable {P : Program} {w : World} {K : PySem.W.Frag} {mg : Str → Option Value} {base : Heap} {ad : Nat → Addr} {fd : Nat → FuncData} {k : Nat} {C : Calls}
theorem ok_letters_of_args (Fx : Facts K mg w ad fd) (T : Tab P w K mg base ad fd (k + 40) C) : FnOk P w K mg base (L2.CX P w) (k + 41) (ad 2) (fd 2) ["decl"] (spF K mg 1 (runDef 7 (b_letters_of_args C))) :=
  defD_ok (N := N_letters_of_args) (ps := ["decl"]) Fx.F2 sc_letters_of_args (fun cdv A outer s H E G =>
    (css_cons (cs_asg (ce_var 0) (cg_tup G.calm (cgs_cons (cg_one (i := 1) sc_letters_of_args.nd rfl (Or.inl rfl)) (cgs_cons (cg_one (i := 2) sc_letters_of_args.nd rfl (Or.inl rfl)) (cgs_cons (cg_one (i := 3) sc_letters_of_args.nd rfl (Or.inl rfl)) cgs_nil)))) (fun he hg => ps_asg he hg))
    (css_cons (cs_set (i := 4) sc_letters_of_args.nd rfl (Or.inl rfl) (ce_lst ca_nil))
    (css_cons (cs_for G (ci_enumA (ce_var 2) (fun ha => pi_enumT rfl Fx.z_enumerate ha)) (cg_tup G.calm (cgs_cons (cg_one (i := 5) sc_letters_of_args.nd rfl (Or.inl rfl)) (cgs_cons (cg_one (i := 6) sc_letters_of_args.nd rfl (Or.inl rfl)) cgs_nil))) (css_one (cs_if (ct_cmp (os_ne G) (ce_var 6) ce_str (nomark _)) (css_cons (cs_expr (ce_mtL gs_append (ce_var 4) (ca_cons (ce_tup (ca_cons (ce_var 1) (ca_cons (ce_op os_add (ce_var 5) ce_int) (ca_cons ce_bl (ca_cons ce_int ca_nil))))) ca_nil) (fun hm ho ha => pe_bm PySem.F.plainAttrs_list PySem.F.slot_list_append PySem.F.type_list_append hm ho ha)))
    (css_one (cs_expr (ce_mtL gs_ext (ce_var 4) (ca_cons (ce_def G (Nat.le_refl _) T.G0 (ca_cons (ce_var 1) (ca_cons (ce_op os_add (ce_var 5) ce_int) (ca_cons (ce_var 6) ca_nil))) (fun hx ha => pe_callS T.G0 G.room rfl Fx.m0 Fx.F0.kp Fx.b0 hx ha)) ca_nil) (fun hm ho ha => pe_bm PySem.F.plainAttrs_list PySem.F.slot_list_extend PySem.F.type_list_extend hm ho ha))))) css_nil)))
    (css_one (cs_ret (ce_var 4)))))))
end
end Lw
namespace Lw
open PySem PySem.Spec PyProof.Rows L2 RZ Dg
section
variable {P : Program} {w : World} {K : PySem.W.Frag} {mg : Str → Option Value} {base : Heap} {ad : Nat → Addr} {fd : Nat → FuncData} {k : Nat} {C : Calls}
theorem ok_letters (Fx : Facts K mg w ad fd) (T : Tab P w K mg base ad fd (k + 40) C) : FnOk P w K mg base (L2.CX P w) (k + 41) (ad 3) (fd 3) ["decls", "kind"] (spF K mg 2 (runDef 4 (b_letters C))) :=
  defD_ok (N := N_letters) (ps := ["decls", "kind"]) Fx.F3 sc_letters (fun cdv A outer s H E G =>
    (css_cons (cs_set (i := 2) sc_letters.nd rfl (Or.inl rfl) (ce_lst (ca_cons (ce_globC rfl Fx.c_QUESTION) (ca_star (ce_def G (Nat.le_refl _) T.G0 (ca_cons ce_str (ca_cons ce_int (ca_cons (ce_var 1) ca_nil))) (fun hx ha => pe_callS T.G0 G.room rfl Fx.m0 Fx.F0.kp Fx.b0 hx ha)) (ca_cons (ce_globC rfl Fx.c_FAULT) ca_nil)))))
    (css_cons (cs_for G (ci_seq (ce_var 0)) (cg_one (i := 3) sc_letters.nd rfl (Or.inl rfl)) (css_cons (cs_expr (ce_mtL gs_ext (ce_var 2) (ca_cons (ce_def G (Nat.le_refl _) T.G1 (ca_cons (ce_var 3) ca_nil) (fun hx ha => pe_callS T.G1 G.room rfl Fx.m1 Fx.F1.kp Fx.b1 hx ha)) ca_nil) (fun hm ho ha => pe_bm PySem.F.plainAttrs_list PySem.F.slot_list_extend PySem.F.type_list_extend hm ho ha)))
    (css_cons (cs_expr (ce_mtL gs_ext (ce_var 2) (ca_cons (ce_def G (Nat.le_refl _) T.G0 (ca_cons (ce_sub G (ce_var 3) ce_int) (ca_cons ce_int (ca_cons (ce_sub G (ce_var 3) ce_int) ca_nil))) (fun hx ha => pe_callS T.G0 G.room rfl Fx.m0 Fx.F0.kp Fx.b0 hx ha)) ca_nil) (fun hm ho ha => pe_bm PySem.F.plainAttrs_list PySem.F.slot_list_extend PySem.F.type_list_extend hm ho ha)))
    (css_one (cs_expr (ce_mtL gs_ext (ce_var 2) (ca_cons (ce_def G (Nat.le_refl _) T.G2 (ca_cons (ce_var 3) ca_nil) (fun hx ha => pe_callS T.G2 G.room rfl Fx.m2 Fx.F2.kp Fx.b2 hx ha)) ca_nil) (fun hm ho ha => pe_bm PySem.F.plainAttrs_list PySem.F.slot_list_extend PySem.F.type_list_extend hm ho ha)))))))
    (css_one (cs_ret (ce_var 2))))))
end
end Lw
namespace Lw
open PySem PySem.Spec PyProof.Rows L2 RZ Dg
section
variable {P : Program} {w : World} {K : PySem.W.Frag} {mg : Str → Option Value} {base : Heap} {ad : Nat → Addr} {fd : Nat → FuncData} {k : Nat} {C : Calls}
theorem ok_is_other (Fx : Facts K mg w ad fd) (T : Tab P w K mg base ad fd (k + 40) C) : FnOk P w K mg base (L2.CX P w) (k + 41) (ad 4) (fd 4) ["move"] (spF K mg 1 (runDef 5 (b_is_other C))) :=
  defD_ok (N := N_is_other) (ps := ["move"]) Fx.F4 sc_is_other (fun cdv A outer s H E G =>
    (css_cons (cs_if (ct_cmp (os_eq G) (ce_var 0) (ce_globC rfl Fx.c_FAULT) (nomark _)) (css_one (cs_ret ce_bl)) css_nil)
    (css_cons (cs_asg (ce_var 0) (cg_tup G.calm (cgs_cons (cg_one (i := 1) sc_is_other.nd rfl (Or.inl rfl)) (cgs_cons (cg_one (i := 2) sc_is_other.nd rfl (Or.inl rfl)) (cgs_cons (cg_one (i := 3) sc_is_other.nd rfl (Or.inl rfl)) (cgs_cons (cg_one (i := 4) sc_is_other.nd rfl (Or.inl rfl)) cgs_nil))))) (fun he hg => ps_asg he hg))
    (css_one (cs_ret (ce_cmp (os_ne G) (ce_or (ce_cmp (os_eq G) (ce_var 1) ce_str (nomark _)) (ce_one (ce_cmp os_gt (ce_var 2) ce_int (nomark _)))) (ce_var 3) (nomark _)))))))
end
end Lw
namespace Lw
open PySem PySem.Spec PyProof.Rows L2 RZ Dg
section
variable {P : Program} {w : World} {K : PySem.W.Frag} {mg : Str → Option Value} {base : Heap} {ad : Nat → Addr} {fd : Nat → FuncData} {k : Nat} {C : Calls}
theorem ok_move_text (Fx : Facts K mg w ad fd) (T : Tab P w K mg base ad fd (k + 40) C) : FnOk P w K mg base (L2.CX P w) (k + 41) (ad 5) (fd 5) ["decls", "move"] (spF K mg 2 (runDef 11 (b_move_text C))) :=
  defD_ok (N := N_move_text) (ps := ["decls", "move"]) Fx.F5 sc_move_text (fun cdv A outer s H E G =>
    (css_cons (cs_if (ct_cmp (os_eq G) (ce_var 1) (ce_globC rfl Fx.c_FAULT) (nomark _)) (css_one (cs_ret ce_str)) css_nil)
    (css_cons (cs_asg (ce_var 1) (cg_tup G.calm (cgs_cons (cg_one (i := 2) sc_move_text.nd rfl (Or.inl rfl)) (cgs_cons (cg_one (i := 3) sc_move_text.nd rfl (Or.inl rfl)) (cgs_cons (cg_one (i := 4) sc_move_text.nd rfl (Or.inl rfl)) (cgs_cons (cg_one (i := 5) sc_move_text.nd rfl (Or.inl rfl)) cgs_nil))))) (fun he hg => ps_asg he hg))
    (css_cons (cs_set (i := 6) sc_move_text.nd rfl (Or.inl rfl) (ce_if (ct_cmp (os_eq G) (ce_var 3) ce_int (nomark _)) (ce_var 2) (ce_joined (.cons (ce_fmt (ce_var 2)) (.cons ce_str (.cons (ce_fmt (ce_var 3)) .nil))))))
    (css_cons (cs_if (ct_val (ce_var 4)) (css_one (cs_ret (ce_joined (.cons (ce_fmt (ce_var 6)) (.cons ce_str (.cons (ce_fmt (ce_var 5)) .nil)))))) css_nil)
    (css_cons (cs_setDcK (W0 := fun _ _ _ _ => False) (i := 7) (own := [("name_of_decl", 8), ("types_of_decl", 9), ("_", 10)]) G sc_move_text.nd rfl rfl (sw_trueD rfl rfl rfl (by decide +kernel)) (blkOk_by (own := [("name_of_decl", 8), ("types_of_decl", 9), ("_", 10)]) (N := N_move_text) (sc := defScope s_move_text) (by decide +kernel)) (ci_seq (ce_var 0)) (fun s0 H0 C0 cl fp => have G := Good.blk (s := s0) (H := H0) (fp := fp) G; (cg_tup G.calm (cgs_cons (cg_one (i := 8) sc_move_text.nd rfl (Or.inl rfl)) (cgs_cons (cg_one (i := 9) sc_move_text.nd rfl (Or.inl rfl)) (cgs_cons (cg_one (i := 10) sc_move_text.nd rfl (Or.inl rfl)) cgs_nil))))) (fun s0 H0 C0 cl fp => cts_nil) (fun s0 H0 C0 cl fp => (ce_var 8)) (fun s0 H0 C0 cl fp => (ce_var 9)) rfl)
    (css_cons (cs_if (CW.ct (cw_and (ct_cmp (os_eq G) (ce_var 3) ce_int (nomark _)) (cw_and1 (ct_cmp (os_in G) ce_str (ce_get G (ce_var 7) (ce_var 2) (ce_tup ca_nil) ⟨rfl, rfl, rfl, rfl⟩) (by rfl))))) (css_one (cs_ret (ce_joined (.cons (ce_fmt (ce_var 6)) (.cons ce_str (.cons (ce_fmt (ce_var 5)) .nil)))))) css_nil)
    (css_one (cs_ret (ce_joined (.cons (ce_fmt (ce_var 6)) (.cons ce_str .nil))))))))))))
end
end Lw
namespace Lw
open PySem PySem.Spec PyProof.Rows L2 RZ Dg
section
variable {P : Program} {w : World} {K : PySem.W.Frag} {mg : Str → Option Value} {base : Heap} {ad : Nat → Addr} {fd : Nat → FuncData} {k : Nat} {C : Calls}
theorem ok_read_play (Fx : Facts K mg w ad fd) (T : Tab P w K mg base ad fd (k + 40) C) : FnOk P w K mg base (L2.CX P w) (k + 41) (ad 6) (fd 6) ["decls", "kind", "text"] (spF K mg 3 (runDef 7 (b_read_play C))) :=
  defD_ok (N := N_read_play) (ps := ["decls", "kind", "text"]) Fx.F6 sc_read_play (fun cdv A outer s H E G =>
    (css_cons (cs_set (i := 3) sc_read_play.nd rfl (Or.inr rfl) (ce_dcK (W0 := fun _ _ _ _ => False) (own := [("move", 6)]) G sc_read_play.nd (blkOk_by (own := [("move", 6)]) (N := N_read_play) (sc := defScope s_read_play) (by decide +kernel)) (ci_seq (ce_def G (Nat.le_refl _) T.G3 (ca_cons (ce_var 0) (ca_cons (ce_var 1) ca_nil)) (fun hx ha => pe_callS T.G3 G.room rfl Fx.m3 Fx.F3.kp Fx.b3 hx ha))) (fun s0 H0 C0 cl fp => (cg_one (i := 6) sc_read_play.nd rfl (Or.inl rfl))) (fun s0 H0 C0 cl fp => cts_nil) (fun s0 H0 C0 cl fp => have G := Good.blk (s := s0) (H := H0) (fp := fp) G; (ce_def G (Nat.le_refl _) T.G5 (ca_cons (ce_var 0) (ca_cons (ce_var 6) ca_nil)) (fun hx ha => pe_callS T.G5 G.room rfl Fx.m5 Fx.F5.kp Fx.b5 hx ha))) (fun s0 H0 C0 cl fp => (ce_var 6)) rfl))
    (css_cons (cs_set (i := 4) sc_read_play.nd rfl (Or.inl rfl) (ce_if (ct_val (ce_var 2)) (ce_mtS gs_split (ce_var 2) (ca_cons ce_str ca_nil) (fun hm ho ha => pe_bm PySem.F.plainAttrs_str PySem.F.slot_str_split PySem.F.type_str_split hm ho ha)) (ce_lst ca_nil)))
    (css_cons (cs_if (ct_cmp os_gt (ce_callB cs_len rfl Fx.z_len bt_len (ca_cons (ce_var 4) ca_nil) (fun hc ha => pe_callB hc rfl Fx.z_len bt_len ha)) (ce_globC rfl Fx.c_MAX_PLAY) (nomark _)) (css_one (cs_raiseN G Fx.x_BadForm rfl (ce_joined (.cons ce_str (.cons (ce_fmt (ce_globC rfl Fx.c_MAX_PLAY)) (.cons ce_str .nil)))))) css_nil)
    (css_cons (cs_for G (ci_seq (ce_var 4)) (cg_one (i := 5) sc_read_play.nd rfl (Or.inl rfl)) (css_one (cs_if (ct_cmp (os_nin G) (ce_var 5) (ce_var 3) (by rfl)) (css_one (cs_raiseN G Fx.x_BadForm rfl (ce_joined (.cons (ce_fmtR (ce_var 5)) (.cons ce_str .nil))))) css_nil)))
    (css_one (cs_ret (ce_lc (own := [("part", 5)]) G sc_read_play.nd (blkOk_by (own := [("part", 5)]) (N := N_read_play) (sc := defScope s_read_play) (by decide +kernel)) (ci_seq (ce_var 4)) (fun s0 H0 C0 cl fp => (cg_one (i := 5) sc_read_play.nd rfl (Or.inl rfl))) (fun s0 H0 C0 cl fp => cts_nil) (fun s0 H0 C0 cl fp => have G := Good.blk (s := s0) (H := H0) (fp := fp) G; (ce_sub G (ce_var 3) (ce_var 5))) rfl))))))))
end
end Lw
namespace Lw
open PySem PySem.Spec PyProof.Rows L2 RZ Dg
section
variable {P : Program} {w : World} {K : PySem.W.Frag} {mg : Str → Option Value} {base : Heap} {ad : Nat → Addr} {fd : Nat → FuncData} {k : Nat} {C : Calls}
theorem ok__law_cell (Fx : Facts K mg w ad fd) (T : Tab P w K mg base ad fd (k + 40) C) : FnOk P w K mg base (L2.CX P w) (k + 41) (ad 7) (fd 7) ["script", "k"] (spF K mg 2 (runDef 2 (b__law_cell C))) :=
  defD_ok (N := N__law_cell) (ps := ["script", "k"]) Fx.F7 sc__law_cell (fun cdv A outer s H E G =>
    (css_cons (cs_if (ct_cmp os_lt (ce_var 1) (ce_callB cs_len rfl Fx.z_len bt_len (ca_cons (ce_var 0) ca_nil) (fun hc ha => pe_callB hc rfl Fx.z_len bt_len ha)) (nomark _)) (css_one (cs_ret (ce_sub G (ce_var 0) (ce_var 1)))) css_nil)
    (css_one (cs_ret ce_int))))
end
end Lw
namespace Lw
open PySem PySem.Spec PyProof.Rows L2 RZ Dg
section
variable {P : Program} {w : World} {K : PySem.W.Frag} {mg : Str → Option Value} {base : Heap} {ad : Nat → Addr} {fd : Nat → FuncData} {k : Nat} {C : Calls}
theorem ok__law_numbers (Fx : Facts K mg w ad fd) (T : Tab P w K mg base ad fd (k + 40) C) : FnOk P w K mg base (L2.CX P w) (k + 41) (ad 8) (fd 8) ["cell", "k", "many"] (spF K mg 3 (runDef 8 (b__law_numbers C))) :=
  defD_ok (N := N__law_numbers) (ps := ["cell", "k", "many"]) Fx.F8 sc__law_numbers (fun cdv A outer s H E G =>
    (css_cons (cs_set (i := 3) sc__law_numbers.nd rfl (Or.inl rfl) (ce_lst ca_nil))
    (css_cons (cs_if (ct_cmp (os_geX G) (ce_var 0) (ce_op os_pow ce_int ce_int) (nomark _)) (css_cons (cs_set (i := 4) sc__law_numbers.nd rfl (Or.inl rfl) (ce_var 0))
    (css_cons (cs_for G (ci_rg1 rfl Fx.z_range (ce_var 2)) (cg_one (i := 5) sc__law_numbers.nd rfl (Or.inl rfl)) (css_cons (cs_expr (ce_mtL gs_append (ce_var 3) (ca_cons (ce_op os_mod (ce_callT cs_int rfl Fx.z_int bt_int (ca_cons (ce_var 4) ca_nil) (fun hc ha => pe_callTy hc rfl Fx.z_int bt_int ha)) ce_int) ca_nil) (fun hm ho ha => pe_bm PySem.F.plainAttrs_list PySem.F.slot_list_append PySem.F.type_list_append hm ho ha)))
    (css_one (cs_set (i := 4) sc__law_numbers.nd rfl (Or.inl rfl) (ce_op os_fdiv (ce_var 4) ce_int)))))
    (css_one (cs_ret (ce_var 3))))) css_nil)
    (css_cons (cs_set (i := 6) sc__law_numbers.nd rfl (Or.inl rfl) (ce_op os_mod (ce_callT cs_int rfl Fx.z_int bt_int (ca_cons (ce_op os_add (ce_op os_add (ce_op os_mul (ce_var 0) ce_int) (ce_op os_mul (ce_var 1) ce_int)) ce_int) ca_nil) (fun hc ha => pe_callTy hc rfl Fx.z_int bt_int ha)) ce_int))
    (css_cons (cs_for G (ci_rg1 rfl Fx.z_range (ce_var 2)) (cg_one (i := 5) sc__law_numbers.nd rfl (Or.inl rfl)) (css_cons (cs_set (i := 6) sc__law_numbers.nd rfl (Or.inl rfl) (ce_op os_mod (ce_callT cs_int rfl Fx.z_int bt_int (ca_cons (ce_op os_add (ce_op os_add (ce_op os_mul (ce_var 6) ce_int) (ce_op os_mul (ce_var 5) ce_int)) ce_int) ca_nil) (fun hc ha => pe_callTy hc rfl Fx.z_int bt_int ha)) ce_int))
    (css_cons (cs_set (i := 7) sc__law_numbers.nd rfl (Or.inl rfl) (ce_op os_mod (ce_callT cs_int rfl Fx.z_int bt_int (ca_cons (ce_op os_add (ce_op os_add (ce_op os_mul (ce_var 6) (ce_var 6)) (ce_op os_mul (ce_var 1) ce_int)) (ce_var 5)) ca_nil) (fun hc ha => pe_callTy hc rfl Fx.z_int bt_int ha)) ce_int))
    (css_one (cs_expr (ce_mtL gs_append (ce_var 3) (ca_cons (ce_op os_mod (ce_callT cs_int rfl Fx.z_int bt_int (ca_cons (ce_op os_fdiv (ce_var 7) ce_int) ca_nil) (fun hc ha => pe_callTy hc rfl Fx.z_int bt_int ha)) ce_int) ca_nil) (fun hm ho ha => pe_bm PySem.F.plainAttrs_list PySem.F.slot_list_append PySem.F.type_list_append hm ho ha)))))))
    (css_one (cs_ret (ce_var 3))))))))
end
end Lw
namespace Lw
open PySem PySem.Spec PyProof.Rows L2 RZ Dg
section
variable {P : Program} {w : World} {K : PySem.W.Frag} {mg : Str → Option Value} {base : Heap} {ad : Nat → Addr} {fd : Nat → FuncData} {k : Nat} {C : Calls}
theorem ok__law_decls (Fx : Facts K mg w ad fd) (T : Tab P w K mg base ad fd (k + 40) C) : FnOk P w K mg base (L2.CX P w) (k + 41) (ad 9) (fd 9) ["numbers"] (spF K mg 1 (runDef 7 (b__law_decls C))) :=
  defD_ok (N := N__law_decls) (ps := ["numbers"]) Fx.F9 sc__law_decls (fun cdv A outer s H E G =>
    (css_cons (cs_set (i := 1) sc__law_decls.nd rfl (Or.inr rfl) (ce_lst (ca_cons ce_str (ca_cons ce_str (ca_cons ce_str (ca_cons ce_str (ca_cons ce_str (ca_cons ce_str ca_nil))))))))
    (css_cons (cs_set (i := 2) sc__law_decls.nd rfl (Or.inl rfl) (ce_callB (cs_sortedX G.calm) rfl Fx.z_sorted bt_sorted (ca_cons (ce_lc (own := [("k", 4)]) G sc__law_decls.nd (blkOk_by (own := [("k", 4)]) (N := N__law_decls) (sc := defScope s__law_decls) (by decide +kernel)) (ci_rg1 rfl Fx.z_range (ce_op os_mod (ce_callT cs_int rfl Fx.z_int bt_int (ca_cons (ce_sub G (ce_var 0) ce_int) ca_nil) (fun hc ha => pe_callTy hc rfl Fx.z_int bt_int ha)) ce_int)) (fun s0 H0 C0 cl fp => (cg_one (i := 4) sc__law_decls.nd rfl (Or.inl rfl))) (fun s0 H0 C0 cl fp => cts_nil) (fun s0 H0 C0 cl fp => have G := Good.blk (s := s0) (H := H0) (fp := fp) G; (ce_sub G (ce_var 1) (ce_op os_mod (ce_callT cs_int rfl Fx.z_int bt_int (ca_cons (ce_sub G (ce_var 0) (ce_var 4)) ca_nil) (fun hc ha => pe_callTy hc rfl Fx.z_int bt_int ha)) ce_int))) rfl) ca_nil) (fun hc ha => pe_callB hc rfl Fx.z_sorted bt_sorted ha)))
    (css_cons (cs_set (i := 3) sc__law_decls.nd rfl (Or.inr rfl) (ce_lst ca_nil))
    (css_cons (cs_for G (ci_rg1 rfl Fx.z_range (ce_callB cs_len rfl Fx.z_len bt_len (ca_cons (ce_var 2) ca_nil) (fun hc ha => pe_callB hc rfl Fx.z_len bt_len ha))) (cg_one (i := 4) sc__law_decls.nd rfl (Or.inl rfl)) (css_one (cs_if (CW.ct (cw_or (ct_cmp (os_eq G) (ce_var 4) ce_int (nomark _)) (cw_or1 (ct_cmp (os_ne G) (ce_sub G (ce_var 2) (ce_var 4)) (ce_sub G (ce_var 2) (ce_op os_sub (ce_var 4) ce_int)) (nomark _))))) (css_cons (cs_setLc (i := 5) (own := [("j", 6)]) G sc__law_decls.nd rfl rfl (sw_true rfl rfl rfl (by decide +kernel)) (blkOk_by (own := [("j", 6)]) (N := N__law_decls) (sc := defScope s__law_decls) (by decide +kernel)) (ci_rg1 rfl Fx.z_range (ce_op os_mod (ce_op os_fdiv (ce_callT cs_int rfl Fx.z_int bt_int (ca_cons (ce_sub G (ce_var 0) (ce_var 4)) ca_nil) (fun hc ha => pe_callTy hc rfl Fx.z_int bt_int ha)) ce_int) ce_int)) (fun s0 H0 C0 cl fp => (cg_one (i := 6) sc__law_decls.nd rfl (Or.inl rfl))) (fun s0 H0 C0 cl fp => cts_nil) (fun s0 H0 C0 cl fp => have G := Good.blk (s := s0) (H := H0) (fp := fp) G; (ce_sub G (ce_lst (ca_cons ce_str (ca_cons ce_str (ca_cons ce_str ca_nil)))) (ce_op os_mod (ce_callT cs_int rfl Fx.z_int bt_int (ca_cons (ce_sub G (ce_var 0) (ce_op os_add (ce_op os_add ce_int (ce_op os_mul ce_int (ce_callB cs_len rfl Fx.z_len bt_len (ca_cons (ce_var 3) ca_nil) (fun hc ha => pe_callB hc rfl Fx.z_len bt_len ha)))) (ce_var 6))) ca_nil) (fun hc ha => pe_callTy hc rfl Fx.z_int bt_int ha)) ce_int))) rfl (fun hi hg ht he => ps_setLc (i := 5) (own := [("j", 6)]) G.calm sc__law_decls.nd rfl rfl (sw_true rfl rfl rfl (by decide +kernel)) hi (blkOk_by (own := [("j", 6)]) (N := N__law_decls) (sc := defScope s__law_decls) (by decide +kernel)) hg ht he))
    (css_one (cs_expr (ce_mtL gs_append (ce_var 3) (ca_cons (ce_tup (ca_cons (ce_sub G (ce_var 2) (ce_var 4)) (ca_cons (ce_callT cs_tuple rfl Fx.z_tuple bt_tuple (ca_cons (ce_var 5) ca_nil) (fun hc ha => pe_callTy hc rfl Fx.z_tuple bt_tuple ha)) (ca_cons (ce_sub G (ce_lst (ca_cons ce_str (ca_cons ce_str ca_nil))) (ce_op os_mod (ce_op os_fdiv (ce_callT cs_int rfl Fx.z_int bt_int (ca_cons (ce_sub G (ce_var 0) (ce_var 4)) ca_nil) (fun hc ha => pe_callTy hc rfl Fx.z_int bt_int ha)) ce_int) ce_int)) ca_nil)))) ca_nil) (fun hm ho ha => pe_bm PySem.F.plainAttrs_list PySem.F.slot_list_append PySem.F.type_list_append hm ho ha))))) css_nil)))
    (css_one (cs_ret (ce_callT cs_tuple rfl Fx.z_tuple bt_tuple (ca_cons (ce_var 3) ca_nil) (fun hc ha => pe_callTy hc rfl Fx.z_tuple bt_tuple ha)))))))))
end
end Lw
namespace Lw
open PySem PySem.Spec PyProof.Rows L2 RZ Dg
section
variable {P : Program} {w : World} {K : PySem.W.Frag} {mg : Str → Option Value} {base : Heap} {ad : Nat → Addr} {fd : Nat → FuncData} {k : Nat} {C : Calls}
theorem ok__law_letters (Fx : Facts K mg w ad fd) (T : Tab P w K mg base ad fd (k + 40) C) : FnOk P w K mg base (L2.CX P w) (k + 41) (ad 10) (fd 10) ["decls", "kind"] (spF K mg 2 (runDef 11 (b__law_letters C))) :=
  defD_ok (N := N__law_letters) (ps := ["decls", "kind"]) Fx.F10 sc__law_letters (fun cdv A outer s H E G =>
    (css_cons (cs_set (i := 2) sc__law_letters.nd rfl (Or.inl rfl) (ce_lst (ca_cons (ce_tup (ca_cons ce_str (ca_cons (ce_tup (ca_cons ce_str (ca_cons ce_int (ca_cons ce_bl (ca_cons ce_int ca_nil))))) ca_nil))) ca_nil)))
    (css_cons (cs_set (i := 2) sc__law_letters.nd rfl (Or.inl rfl) (ce_op os_add (ce_var 2) (ce_lc (own := [("v", 9)]) G sc__law_letters.nd (blkOk_by (own := [("v", 9)]) (N := N__law_letters) (sc := defScope s__law_letters) (by decide +kernel)) (ci_rg1 rfl Fx.z_range (ce_sub G (ce_lst (ca_cons ce_int (ca_cons ce_int ca_nil))) (ce_callT cs_int rfl Fx.z_int bt_int (ca_cons (ce_cmp (os_eq G) (ce_var 1) ce_str (nomark _)) ca_nil) (fun hc ha => pe_callTy hc rfl Fx.z_int bt_int ha)))) (fun s0 H0 C0 cl fp => (cg_one (i := 9) sc__law_letters.nd rfl (Or.inl rfl))) (fun s0 H0 C0 cl fp => cts_nil) (fun s0 H0 C0 cl fp => (ce_tup (ca_cons (ce_op os_add ce_str (ce_callT cs_str rfl Fx.z_str bt_str (ca_cons (ce_var 9) ca_nil) (fun hc ha => pe_callTy hc rfl Fx.z_str bt_str ha))) (ca_cons (ce_tup (ca_cons ce_str (ca_cons ce_int (ca_cons ce_bl (ca_cons (ce_var 9) ca_nil))))) ca_nil)))) rfl)))
    (css_cons (cs_expr (ce_mtL gs_append (ce_var 2) (ca_cons (ce_tup (ca_cons ce_str (ca_cons (ce_tup (ca_cons ce_str ca_nil)) ca_nil))) ca_nil) (fun hm ho ha => pe_bm PySem.F.plainAttrs_list PySem.F.slot_list_append PySem.F.type_list_append hm ho ha)))
    (css_cons (cs_for G (ci_seq (ce_var 0)) (cg_tup G.calm (cgs_cons (cg_one (i := 3) sc__law_letters.nd rfl (Or.inr rfl)) (cgs_cons (cg_one (i := 4) sc__law_letters.nd rfl (Or.inl rfl)) (cgs_cons (cg_one (i := 5) sc__law_letters.nd rfl (Or.inl rfl)) cgs_nil)))) (css_cons (cs_set (i := 6) sc__law_letters.nd rfl (Or.inl rfl) (ce_callB cs_len rfl Fx.z_len bt_len (ca_cons (ce_lc (own := [("one", 10)]) G sc__law_letters.nd (blkOk_by (own := [("one", 10)]) (N := N__law_letters) (sc := defScope s__law_letters) (by decide +kernel)) (ci_seq (ce_var 4)) (fun s0 H0 C0 cl fp => (cg_one (i := 10) sc__law_letters.nd rfl (Or.inl rfl))) (fun s0 H0 C0 cl fp => have G := Good.blk (s := s0) (H := H0) (fp := fp) G; (cts_one (ct_cmp (os_eq G) (ce_var 10) ce_str (nomark _)))) (fun s0 H0 C0 cl fp => (ce_var 10)) rfl) ca_nil) (fun hc ha => pe_callB hc rfl Fx.z_len bt_len ha)))
    (css_cons (cs_if (ct_cmp (os_eq G) (ce_var 6) ce_int (nomark _)) (css_one (cs_expr (ce_mtL gs_append (ce_var 2) (ca_cons (ce_tup (ca_cons (ce_op os_add (ce_var 3) ce_str) (ca_cons (ce_tup (ca_cons (ce_var 3) (ca_cons ce_int (ca_cons ce_bl (ca_cons ce_int ca_nil))))) ca_nil))) ca_nil) (fun hm ho ha => pe_bm PySem.F.plainAttrs_list PySem.F.slot_list_append PySem.F.type_list_append hm ho ha)))) (css_one (cs_set (i := 2) sc__law_letters.nd rfl (Or.inl rfl) (ce_op os_add (ce_var 2) (ce_lc (own := [("v", 9)]) G sc__law_letters.nd (blkOk_by (own := [("v", 9)]) (N := N__law_letters) (sc := defScope s__law_letters) (by decide +kernel)) (ci_rg1 rfl Fx.z_range (ce_sub G (ce_lst (ca_cons ce_int (ca_cons ce_int (ca_cons ce_int ca_nil)))) (ce_var 6))) (fun s0 H0 C0 cl fp => (cg_one (i := 9) sc__law_letters.nd rfl (Or.inl rfl))) (fun s0 H0 C0 cl fp => cts_nil) (fun s0 H0 C0 cl fp => (ce_tup (ca_cons (ce_op os_add (ce_op os_add (ce_var 3) ce_str) (ce_callT cs_str rfl Fx.z_str bt_str (ca_cons (ce_var 9) ca_nil) (fun hc ha => pe_callTy hc rfl Fx.z_str bt_str ha))) (ca_cons (ce_tup (ca_cons (ce_var 3) (ca_cons ce_int (ca_cons ce_bl (ca_cons (ce_var 9) ca_nil))))) ca_nil)))) rfl)))))
    (css_cons (cs_set (i := 2) sc__law_letters.nd rfl (Or.inl rfl) (ce_op os_add (ce_var 2) (ce_lc (own := [("v", 9)]) G sc__law_letters.nd (blkOk_by (own := [("v", 9)]) (N := N__law_letters) (sc := defScope s__law_letters) (by decide +kernel)) (ci_rg1 rfl Fx.z_range (ce_sub G (ce_lst (ca_cons ce_int (ca_cons ce_int ca_nil))) (ce_callT cs_int rfl Fx.z_int bt_int (ca_cons (ce_cmp (os_eq G) (ce_var 5) ce_str (nomark _)) ca_nil) (fun hc ha => pe_callTy hc rfl Fx.z_int bt_int ha)))) (fun s0 H0 C0 cl fp => (cg_one (i := 9) sc__law_letters.nd rfl (Or.inl rfl))) (fun s0 H0 C0 cl fp => cts_nil) (fun s0 H0 C0 cl fp => (ce_tup (ca_cons (ce_op os_add (ce_op os_add (ce_var 3) ce_str) (ce_callT cs_str rfl Fx.z_str bt_str (ca_cons (ce_var 9) ca_nil) (fun hc ha => pe_callTy hc rfl Fx.z_str bt_str ha))) (ca_cons (ce_tup (ca_cons (ce_var 3) (ca_cons ce_int (ca_cons ce_bl (ca_cons (ce_var 9) ca_nil))))) ca_nil)))) rfl)))
    (css_one (cs_for G (ci_rg1 rfl Fx.z_range (ce_callB cs_len rfl Fx.z_len bt_len (ca_cons (ce_var 4) ca_nil) (fun hc ha => pe_callB hc rfl Fx.z_len bt_len ha))) (cg_one (i := 7) sc__law_letters.nd rfl (Or.inr rfl)) (css_cons (cs_set (i := 8) sc__law_letters.nd rfl (Or.inr rfl) (ce_op os_add (ce_op os_add (ce_var 3) ce_str) (ce_callT cs_str rfl Fx.z_str bt_str (ca_cons (ce_op os_add (ce_var 7) ce_int) ca_nil) (fun hc ha => pe_callTy hc rfl Fx.z_str bt_str ha))))
    (css_one (cs_if (ct_cmp (os_ne G) (ce_sub G (ce_var 4) (ce_var 7)) ce_str (nomark _)) (css_cons (cs_expr (ce_mtL gs_append (ce_var 2) (ca_cons (ce_tup (ca_cons (ce_op os_add (ce_var 8) ce_str) (ca_cons (ce_tup (ca_cons (ce_var 3) (ca_cons (ce_op os_add (ce_var 7) ce_int) (ca_cons ce_bl (ca_cons ce_int ca_nil))))) ca_nil))) ca_nil) (fun hm ho ha => pe_bm PySem.F.plainAttrs_list PySem.F.slot_list_append PySem.F.type_list_append hm ho ha)))
    (css_one (cs_set (i := 2) sc__law_letters.nd rfl (Or.inl rfl) (ce_op os_add (ce_var 2) (ce_lc (own := [("v", 9)]) G sc__law_letters.nd (blkOk_by (own := [("v", 9)]) (N := N__law_letters) (sc := defScope s__law_letters) (by decide +kernel)) (ci_rg1 rfl Fx.z_range (ce_sub G (ce_lst (ca_cons ce_int (ca_cons ce_int ca_nil))) (ce_callT cs_int rfl Fx.z_int bt_int (ca_cons (ce_cmp (os_eq G) (ce_sub G (ce_var 4) (ce_var 7)) ce_str (nomark _)) ca_nil) (fun hc ha => pe_callTy hc rfl Fx.z_int bt_int ha)))) (fun s0 H0 C0 cl fp => (cg_one (i := 9) sc__law_letters.nd rfl (Or.inl rfl))) (fun s0 H0 C0 cl fp => cts_nil) (fun s0 H0 C0 cl fp => (ce_tup (ca_cons (ce_op os_add (ce_op os_add (ce_var 8) ce_str) (ce_callT cs_str rfl Fx.z_str bt_str (ca_cons (ce_var 9) ca_nil) (fun hc ha => pe_callTy hc rfl Fx.z_str bt_str ha))) (ca_cons (ce_tup (ca_cons (ce_var 3) (ca_cons (ce_op os_add (ce_var 7) ce_int) (ca_cons ce_bl (ca_cons (ce_var 9) ca_nil))))) ca_nil)))) rfl))))) css_nil)))))))))
    (css_one (cs_ret (ce_var 2))))))))
end
end Lw
namespace Lw
open PySem PySem.Spec PyProof.Rows L2 RZ Dg
section
variable {P : Program} {w : World} {K : PySem.W.Frag} {mg : Str → Option Value} {base : Heap} {ad : Nat → Addr} {fd : Nat → FuncData} {k : Nat} {C : Calls}
theorem ok__law_is_other (Fx : Facts K mg w ad fd) (T : Tab P w K mg base ad fd (k + 40) C) : FnOk P w K mg base (L2.CX P w) (k + 41) (ad 11) (fd 11) ["move"] (spF K mg 1 (runDef 1 (b__law_is_other C))) :=
  defD_ok (N := N__law_is_other) (ps := ["move"]) Fx.F11 sc__law_is_other (fun cdv A outer s H E G =>
    (css_cons (cs_if (ct_cmp (os_eq G) (ce_callB cs_len rfl Fx.z_len bt_len (ca_cons (ce_var 0) ca_nil) (fun hc ha => pe_callB hc rfl Fx.z_len bt_len ha)) ce_int (nomark _)) (css_one (cs_ret ce_bl)) css_nil)
    (css_cons (cs_if (ct_cmp (os_eq G) (ce_sub G (ce_var 0) ce_int) ce_str (nomark _)) (css_one (cs_ret (ce_not (ce_sub G (ce_var 0) ce_int)))) css_nil)
    (css_one (cs_ret (ce_or (ce_and (ce_sub G (ce_var 0) ce_int) (ce_one (ce_cmp (os_eq G) (ce_sub G (ce_var 0) ce_int) ce_int (nomark _)))) (ce_one (ce_and (ce_not (ce_sub G (ce_var 0) ce_int)) (ce_one (ce_cmp os_gt (ce_sub G (ce_var 0) ce_int) ce_int (nomark _)))))))))))
end
end Lw
namespace Lw
open PySem PySem.Spec PyProof.Rows L2 RZ Dg
section
variable {P : Program} {w : World} {K : PySem.W.Frag} {mg : Str → Option Value} {base : Heap} {ad : Nat → Addr} {fd : Nat → FuncData} {k : Nat} {C : Calls}
theorem ok__law_read (Fx : Facts K mg w ad fd) (T : Tab P w K mg base ad fd (k + 40) C) : FnOk P w K mg base (L2.CX P w) (k + 41) (ad 12) (fd 12) ["decls", "kind", "text"] (spF K mg 3 (runDef 4 (b__law_read C))) :=
  defD_ok (N := N__law_read) (ps := ["decls", "kind", "text"]) Fx.F12 sc__law_read (fun cdv A outer s H E G =>
    (css_one (cs_tryAs (i := 3) G sc__law_read.nd rfl rfl Fx.x_BadForm rfl (exm_cons Fx.xm_DoppelError_BadForm (exm_cons Fx.xm_NotAllowed_BadForm (exm_cons Fx.xm_BadForm_BadForm (exm_cons Fx.xm_BadName_BadForm (fun q hq => nomatch hq)))))
    (fun W1 pn xe G => (css_one (cs_ret (ce_def G (Nat.le_refl _) T.G6 (ca_cons (ce_var 0) (ca_cons (ce_var 1) (ca_cons (ce_var 2) ca_nil))) (fun hx ha => pe_callS T.G6 G.room rfl Fx.m6 Fx.F6.kp Fx.b6 hx ha)))))
    (fun c C a oe pn hcm hc hz hf => (at_lst2 ce_str (at_and (at_isX (isx_cons Fx.is_DoppelError_DoppelError (isx_cons Fx.is_NotAllowed_DoppelError (isx_cons Fx.is_BadForm_DoppelError (isx_cons Fx.is_BadName_DoppelError (fun q hq => nomatch hq))))) hc hz hf rfl (Or.inl rfl) rfl rfl Fx.z_isinstance) (at_one (at_not (at_isXT (ys := ["BadName", "NotAllowed"]) (ps := [_, _]) (isxT_tab (isxT_cons Fx.is_DoppelError_BadName (isxT_one Fx.is_DoppelError_NotAllowed)) (isxT_tab (isxT_cons Fx.is_NotAllowed_BadName (isxT_one Fx.is_NotAllowed_NotAllowed)) (isxT_tab (isxT_cons Fx.is_BadForm_BadName (isxT_one Fx.is_BadForm_NotAllowed)) (isxT_tab (isxT_cons Fx.is_BadName_BadName (isxT_one Fx.is_BadName_NotAllowed)) isxT_tab0)))) hc hz hf rfl (Or.inl rfl) rfl (fa_cons rfl (fa_cons rfl fa_nil)) (fa_cons (by decide) (fa_cons (by decide) fa_nil)) rfl Fx.z_isinstance (by decide) (hse := fun _ _ _ => rfl))))))))))
end
end Lw
namespace Lw
open PySem PySem.Spec PyProof.Rows L2 RZ Dg
section
variable {P : Program} {w : World} {K : PySem.W.Frag} {mg : Str → Option Value} {base : Heap} {ad : Nat → Addr} {fd : Nat → FuncData} {k : Nat} {C : Calls}
theorem ok__law_row (Fx : Facts K mg w ad fd) (T : Tab P w K mg base ad fd (k + 40) C) : FnOk P w K mg base (L2.CX P w) (k + 41) (ad 13) (fd 13) ["decls", "kind", "rows", "numbers"] (spF K mg 4 (runDef 12 (b__law_row C))) :=
  defD_ok (N := N__law_row) (ps := ["decls", "kind", "rows", "numbers"]) Fx.F13 sc__law_row (fun cdv A outer s H E G =>
    (css_cons (cs_set (i := 4) sc__law_row.nd rfl (Or.inl rfl) (ce_op os_mod (ce_callT cs_int rfl Fx.z_int bt_int (ca_cons (ce_sub G (ce_var 3) ce_int) ca_nil) (fun hc ha => pe_callTy hc rfl Fx.z_int bt_int ha)) (ce_sub G (ce_lst (ca_cons ce_int (ca_cons ce_int ca_nil))) (ce_op os_mod (ce_callT cs_int rfl Fx.z_int bt_int (ca_cons (ce_sub G (ce_var 3) ce_int) ca_nil) (fun hc ha => pe_callTy hc rfl Fx.z_int bt_int ha)) ce_int))))
    (css_cons (cs_setLc (i := 5) (own := [("k", 10)]) G sc__law_row.nd rfl rfl (sw_true rfl rfl rfl (by decide +kernel)) (blkOk_by (own := [("k", 10)]) (N := N__law_row) (sc := defScope s__law_row) (by decide +kernel)) (ci_rg1 rfl Fx.z_range (ce_var 4)) (fun s0 H0 C0 cl fp => (cg_one (i := 10) sc__law_row.nd rfl (Or.inl rfl))) (fun s0 H0 C0 cl fp => cts_nil) (fun s0 H0 C0 cl fp => have G := Good.blk (s := s0) (H := H0) (fp := fp) G; (ce_sub G (ce_var 2) (ce_op os_mod (ce_callT cs_int rfl Fx.z_int bt_int (ca_cons (ce_op os_add (ce_sub G (ce_var 3) (ce_op os_add ce_int (ce_op os_mod (ce_callT cs_int rfl Fx.z_int bt_int (ca_cons (ce_var 10) ca_nil) (fun hc ha => pe_callTy hc rfl Fx.z_int bt_int ha)) ce_int))) (ce_op os_mul ce_int (ce_var 10))) ca_nil) (fun hc ha => pe_callTy hc rfl Fx.z_int bt_int ha)) (ce_callB cs_len rfl Fx.z_len bt_len (ca_cons (ce_var 2) ca_nil) (fun hc ha => pe_callB hc rfl Fx.z_len bt_len ha))))) rfl (fun hi hg ht he => ps_setLc (i := 5) (own := [("k", 10)]) G.calm sc__law_row.nd rfl rfl (sw_true rfl rfl rfl (by decide +kernel)) hi (blkOk_by (own := [("k", 10)]) (N := N__law_row) (sc := defScope s__law_row) (by decide +kernel)) hg ht he))
    (css_cons (cs_setLc (i := 6) (own := [("one", 11)]) G sc__law_row.nd rfl rfl (sw_true rfl rfl rfl (by decide +kernel)) (blkOk_by (own := [("one", 11)]) (N := N__law_row) (sc := defScope s__law_row) (by decide +kernel)) (ci_seq (ce_var 5)) (fun s0 H0 C0 cl fp => (cg_one (i := 11) sc__law_row.nd rfl (Or.inl rfl))) (fun s0 H0 C0 cl fp => cts_nil) (fun s0 H0 C0 cl fp => have G := Good.blk (s := s0) (H := H0) (fp := fp) G; (ce_sub G (ce_var 11) ce_int)) rfl (fun hi hg ht he => ps_setLc (i := 6) (own := [("one", 11)]) G.calm sc__law_row.nd rfl rfl (sw_true rfl rfl rfl (by decide +kernel)) hi (blkOk_by (own := [("one", 11)]) (N := N__law_row) (sc := defScope s__law_row) (by decide +kernel)) hg ht he))
    (css_cons (cs_setLc (i := 7) (own := [("one", 11)]) G sc__law_row.nd rfl rfl (sw_true rfl rfl rfl (by decide +kernel)) (blkOk_by (own := [("one", 11)]) (N := N__law_row) (sc := defScope s__law_row) (by decide +kernel)) (ci_seq (ce_var 5)) (fun s0 H0 C0 cl fp => (cg_one (i := 11) sc__law_row.nd rfl (Or.inl rfl))) (fun s0 H0 C0 cl fp => cts_nil) (fun s0 H0 C0 cl fp => have G := Good.blk (s := s0) (H := H0) (fp := fp) G; (ce_sub G (ce_var 11) ce_int)) rfl (fun hi hg ht he => ps_setLc (i := 7) (own := [("one", 11)]) G.calm sc__law_row.nd rfl rfl (sw_true rfl rfl rfl (by decide +kernel)) hi (blkOk_by (own := [("one", 11)]) (N := N__law_row) (sc := defScope s__law_row) (by decide +kernel)) hg ht he))
    (css_cons (cs_if (ct_cmp os_gt (ce_var 4) ce_int (nomark _)) (css_one (cs_set (i := 7) sc__law_row.nd rfl (Or.inl rfl) (ce_lst (ca_cons ce_str (ca_cons ce_bl ca_nil))))) css_nil)
    (css_cons (cs_if (ct_cmp (os_ne G) (ce_def G (Nat.le_refl _) T.G12 (ca_cons (ce_var 0) (ca_cons (ce_var 1) (ca_cons (ce_mtS gs_join ce_str (ca_cons (ce_var 6) ca_nil) (fun hm ho ha => pe_bm PySem.F.plainAttrs_str PySem.F.slot_str_join PySem.F.type_str_join hm ho ha)) ca_nil))) (fun hx ha => pe_callS T.G12 G.room rfl Fx.m12 Fx.F12.kp Fx.b12 hx ha)) (ce_var 7) (nomark _)) (css_one (cs_ret ce_bl)) css_nil)
    (css_cons (cs_if (ct_cmp (os_eq G) (ce_var 4) ce_int (nomark _)) (css_one (cs_ret ce_bl)) css_nil)
    (css_cons (cs_set (i := 8) sc__law_row.nd rfl (Or.inl rfl) (ce_op os_mod (ce_callT cs_int rfl Fx.z_int bt_int (ca_cons (ce_sub G (ce_var 3) ce_int) ca_nil) (fun hc ha => pe_callTy hc rfl Fx.z_int bt_int ha)) (ce_var 4)))
    (css_cons (cs_set (i := 9) sc__law_row.nd rfl (Or.inl rfl) (ce_sub G (ce_lst (ca_cons ce_str (ca_cons ce_str (ca_cons ce_str (ca_cons ce_str (ca_cons ce_str (ca_cons ce_str (ca_cons ce_str (ca_cons ce_str (ca_cons ce_str (ca_cons ce_str (ca_cons ce_str ca_nil)))))))))))) (ce_op os_mod (ce_callT cs_int rfl Fx.z_int bt_int (ca_cons (ce_sub G (ce_var 3) ce_int) ca_nil) (fun hc ha => pe_callTy hc rfl Fx.z_int bt_int ha)) ce_int)))
    (css_cons (cs_store G (ce_var 6) (ce_var 8) (ce_var 9) (fun ho hi he => ps_asg he (pg_sub ho hi set_list)) (fun ho hi he => ps_dput G.hu ho hi he rfl))
    (css_one (cs_ret (ce_or (ce_cmp os_gt (ce_var 4) ce_int (nomark _)) (ce_or (ce_cmp (os_eq G) (ce_def G (Nat.le_refl _) T.G12 (ca_cons (ce_var 0) (ca_cons (ce_var 1) (ca_cons (ce_mtS gs_join ce_str (ca_cons (ce_var 6) ca_nil) (fun hm ho ha => pe_bm PySem.F.plainAttrs_str PySem.F.slot_str_join PySem.F.type_str_join hm ho ha)) ca_nil))) (fun hx ha => pe_callS T.G12 G.room rfl Fx.m12 Fx.F12.kp Fx.b12 hx ha)) (ce_lst (ca_cons ce_str (ca_cons ce_bl ca_nil))) (nomark _)) (ce_one (ce_and (ce_cmp (os_eq G) (ce_var 4) ce_int (nomark _)) (ce_one (ce_cmp (os_eq G) (ce_var 9) ce_str (nomark _))))))))))))))))))))
end
end Lw
namespace Lw
open PySem PySem.Spec PyProof.Rows L2 RZ Dg
section
variable {P : Program} {w : World} {K : PySem.W.Frag} {mg : Str → Option Value} {base : Heap} {ad : Nat → Addr} {fd : Nat → FuncData} {k : Nat} {C : Calls}
theorem ok_law (Fx : Facts K mg w ad fd) (T : Tab P w K mg base ad fd (k + 40) C) : FnOk P w K mg base (L2.CX P w) (k + 41) (ad 14) (fd 14) ["script"] (spF K mg 1 (runDef 10 (b_law C))) :=
  defD_ok (N := N_law) (ps := ["script"]) Fx.F14 sc_law (fun cdv A outer s H E G =>
    (css_cons (cs_set (i := 1) sc_law.nd rfl (Or.inl rfl) (ce_def G (Nat.le_refl _) T.G8 (ca_cons (ce_def G (Nat.le_refl _) T.G7 (ca_cons (ce_var 0) (ca_cons ce_int ca_nil)) (fun hx ha => pe_callS T.G7 G.room rfl Fx.m7 Fx.F7.kp Fx.b7 hx ha)) (ca_cons ce_int (ca_cons ce_int ca_nil))) (fun hx ha => pe_callS T.G8 G.room rfl Fx.m8 Fx.F8.kp Fx.b8 hx ha)))
    (css_cons (cs_set (i := 2) sc_law.nd rfl (Or.inl rfl) (ce_def G (Nat.le_refl _) T.G9 (ca_cons (ce_var 1) ca_nil) (fun hx ha => pe_callS T.G9 G.room rfl Fx.m9 Fx.F9.kp Fx.b9 hx ha)))
    (css_cons (cs_for G (ci_seq (ce_tup (ca_cons ce_str (ca_cons ce_str ca_nil)))) (cg_one (i := 3) sc_law.nd rfl (Or.inl rfl)) (css_cons (cs_set (i := 4) sc_law.nd rfl (Or.inl rfl) (ce_def G (Nat.le_refl _) T.G10 (ca_cons (ce_var 2) (ca_cons (ce_var 3) ca_nil)) (fun hx ha => pe_callS T.G10 G.room rfl Fx.m10 Fx.F10.kp Fx.b10 hx ha)))
    (css_cons (cs_set (i := 5) sc_law.nd rfl (Or.inl rfl) (ce_def G (Nat.le_refl _) T.G3 (ca_cons (ce_var 2) (ca_cons (ce_var 3) ca_nil)) (fun hx ha => pe_callS T.G3 G.room rfl Fx.m3 Fx.F3.kp Fx.b3 hx ha)))
    (css_cons (cs_if (CW.ct (cw_or (ct_not (ct_val (ce_isi kt_list (ce_var 5) (pe_bltn rfl Fx.z_list bt_list rfl) (fun hc ha => pe_callB hc rfl Fx.z_isinstance bt_isinstance ha)))) (cw_or1 (ct_cmp (os_ne G) (ce_var 5) (ce_lc (own := [("row", 9)]) G sc_law.nd (blkOk_by (own := [("row", 9)]) (N := N_law) (sc := defScope s_law) (by decide +kernel)) (ci_seq (ce_var 4)) (fun s0 H0 C0 cl fp => (cg_one (i := 9) sc_law.nd rfl (Or.inl rfl))) (fun s0 H0 C0 cl fp => cts_nil) (fun s0 H0 C0 cl fp => have G := Good.blk (s := s0) (H := H0) (fp := fp) G; (ce_sub G (ce_var 9) ce_int)) rfl) (nomark _))))) (css_one (cs_ret ce_bl)) css_nil)
    (css_cons (cs_expr (ce_mtL gs_append (ce_var 5) (ca_cons (ce_globC rfl Fx.c_FAULT) ca_nil) (fun hm ho ha => pe_bm PySem.F.plainAttrs_list PySem.F.slot_list_append PySem.F.type_list_append hm ho ha)))
    (css_cons (cs_if (ct_cmp (os_ne G) (ce_def G (Nat.le_refl _) T.G3 (ca_cons (ce_var 2) (ca_cons (ce_var 3) ca_nil)) (fun hx ha => pe_callS T.G3 G.room rfl Fx.m3 Fx.F3.kp Fx.b3 hx ha)) (ce_lc (own := [("row", 9)]) G sc_law.nd (blkOk_by (own := [("row", 9)]) (N := N_law) (sc := defScope s_law) (by decide +kernel)) (ci_seq (ce_var 4)) (fun s0 H0 C0 cl fp => (cg_one (i := 9) sc_law.nd rfl (Or.inl rfl))) (fun s0 H0 C0 cl fp => cts_nil) (fun s0 H0 C0 cl fp => have G := Good.blk (s := s0) (H := H0) (fp := fp) G; (ce_sub G (ce_var 9) ce_int)) rfl) (nomark _)) (css_one (cs_ret ce_bl)) css_nil)
    (css_cons (cs_for G (ci_seq (ce_var 4)) (cg_tup G.calm (cgs_cons (cg_one (i := 6) sc_law.nd rfl (Or.inl rfl)) (cgs_cons (cg_one (i := 7) sc_law.nd rfl (Or.inl rfl)) cgs_nil))) (css_one (cs_if (CW.ct (cw_or (ct_cmp (os_ne G) (ce_def G (Nat.le_refl _) T.G5 (ca_cons (ce_var 2) (ca_cons (ce_var 7) ca_nil)) (fun hx ha => pe_callS T.G5 G.room rfl Fx.m5 Fx.F5.kp Fx.b5 hx ha)) (ce_var 6) (nomark _)) (cw_or1 (ct_cmp (os_ne G) (ce_def G (Nat.le_refl _) T.G4 (ca_cons (ce_var 7) ca_nil) (fun hx ha => pe_callS T.G4 G.room rfl Fx.m4 Fx.F4.kp Fx.b4 hx ha)) (ce_def G (Nat.le_refl _) T.G11 (ca_cons (ce_var 7) ca_nil) (fun hx ha => pe_callS T.G11 G.room rfl Fx.m11 Fx.F11.kp Fx.b11 hx ha)) (nomark _))))) (css_one (cs_ret ce_bl)) css_nil)))
    (css_one (cs_for G (ci_rg2 rfl Fx.z_range ce_int (ce_callB (cs_max G.calm) rfl Fx.z_max bt_max (ca_cons ce_int (ca_cons (ce_callB (cs_min G.calm) rfl Fx.z_min bt_min (ca_cons (ce_callB cs_len rfl Fx.z_len bt_len (ca_cons (ce_var 0) ca_nil) (fun hc ha => pe_callB hc rfl Fx.z_len bt_len ha)) (ca_cons ce_int ca_nil)) (fun hc ha => pe_callB hc rfl Fx.z_min bt_min ha)) ca_nil)) (fun hc ha => pe_callB hc rfl Fx.z_max bt_max ha)) (fun ha => pi_range2 rfl Fx.z_range ha)) (cg_one (i := 8) sc_law.nd rfl (Or.inl rfl)) (css_one (cs_if (ct_not (ct_val (ce_def G (Nat.le_refl _) T.G13 (ca_cons (ce_var 2) (ca_cons (ce_var 3) (ca_cons (ce_var 4) (ca_cons (ce_def G (Nat.le_refl _) T.G8 (ca_cons (ce_def G (Nat.le_refl _) T.G7 (ca_cons (ce_var 0) (ca_cons (ce_var 8) ca_nil)) (fun hx ha => pe_callS T.G7 G.room rfl Fx.m7 Fx.F7.kp Fx.b7 hx ha)) (ca_cons (ce_var 8) (ca_cons ce_int ca_nil))) (fun hx ha => pe_callS T.G8 G.room rfl Fx.m8 Fx.F8.kp Fx.b8 hx ha)) ca_nil)))) (fun hx ha => pe_callS T.G13 G.room rfl Fx.m13 Fx.F13.kp Fx.b13 hx ha)))) (css_one (cs_ret ce_bl)) css_nil)))))))))))
    (css_one (cs_ret (ce_and (ce_cmp (os_eq G) (ce_def G (Nat.le_refl _) T.G6 (ca_cons (ce_var 2) (ca_cons ce_str (ca_cons ce_str ca_nil))) (fun hx ha => pe_callS T.G6 G.room rfl Fx.m6 Fx.F6.kp Fx.b6 hx ha)) (ce_lst ca_nil) (nomark _)) (ce_and (ce_cmp (os_eq G) (ce_globC rfl Fx.c_QUESTION) (ce_tup (ca_cons ce_str (ca_cons ce_int (ca_cons ce_bl (ca_cons ce_int ca_nil))))) (nomark _)) (ce_and (ce_cmp (os_eq G) (ce_globC rfl Fx.c_FAULT) (ce_tup (ca_cons ce_str ca_nil)) (nomark _)) (ce_one (ce_cmp (os_eq G) (ce_globC rfl Fx.c_MAX_PLAY) ce_int (nomark _))))))))))))
end
end Lw
namespace Lw
open PySem PySem.Spec PyProof.Rows L2 RZ Dg
section
variable {P : Program} {w : World} {K : PySem.W.Frag} {mg : Str → Option Value} {base : Heap} {ad : Nat → Addr} {fd : Nat → FuncData} {k : Nat} {C : Calls}
theorem tab_0 (ad : Nat → Addr) (fd : Nat → FuncData) : Tab P w K mg base ad fd 40 (call 0) := ⟨fn_bad, fn_bad, fn_bad, fn_bad, fn_bad, fn_bad, fn_bad, fn_bad, fn_bad, fn_bad, fn_bad, fn_bad, fn_bad, fn_bad, fn_bad⟩
theorem tab_s (Fx : Facts K mg w ad fd) (T : Tab P w K mg base ad fd (k + 40) (call k)) : Tab P w K mg base ad fd (k + 41) (call (k + 1)) :=
  ⟨ok_answers_of Fx T, ok_questions_of Fx T, ok_letters_of_args Fx T, ok_letters Fx T, ok_is_other Fx T, ok_move_text Fx T, ok_read_play Fx T, ok__law_cell Fx T, ok__law_numbers Fx T, ok__law_decls Fx T, ok__law_letters Fx T, ok__law_is_other Fx T, ok__law_read Fx T, ok__law_row Fx T, ok_law Fx T⟩
theorem tab (Fx : Facts K mg w ad fd) : ∀ k : Nat, Tab P w K mg base ad fd (k + 40) (call k)
  | 0 => tab_0 ad fd
  | k + 1 => by
    have h := tab_s Fx (tab Fx k)
    rw [show k + 1 + 40 = k + 41 by omega]
    exact h
end
end Lw
namespace Lw
open PySem PySem.Spec PyProof.Rows L2 RZ Dg
def d_answers_of : He.DefD := ⟨("answers_of", none), "answers_of", "answers_of", defArgs s_answers_of, defBody s_answers_of, defScope s_answers_of, [], []⟩
def d_questions_of : He.DefD := ⟨("questions_of", none), "questions_of", "questions_of", defArgs s_questions_of, defBody s_questions_of, defScope s_questions_of, [], []⟩
def d_letters_of_args : He.DefD := ⟨("letters_of_args", none), "letters_of_args", "letters_of_args", defArgs s_letters_of_args, defBody s_letters_of_args, defScope s_letters_of_args, [], []⟩
def d_letters : He.DefD := ⟨("letters", none), "letters", "letters", defArgs s_letters, defBody s_letters, defScope s_letters, [], []⟩
def d_is_other : He.DefD := ⟨("is_other", none), "is_other", "is_other", defArgs s_is_other, defBody s_is_other, defScope s_is_other, [], []⟩
def d_move_text : He.DefD := ⟨("move_text", none), "move_text", "move_text", defArgs s_move_text, defBody s_move_text, defScope s_move_text, [], []⟩
def d_read_play : He.DefD := ⟨("read_play", none), "read_play", "read_play", defArgs s_read_play, defBody s_read_play, defScope s_read_play, [], []⟩
def d__law_cell : He.DefD := ⟨("_law_cell", none), "_law_cell", "_law_cell", defArgs s__law_cell, defBody s__law_cell, defScope s__law_cell, [], []⟩
def d__law_numbers : He.DefD := ⟨("_law_numbers", none), "_law_numbers", "_law_numbers", defArgs s__law_numbers, defBody s__law_numbers, defScope s__law_numbers, [], []⟩
def d__law_decls : He.DefD := ⟨("_law_decls", none), "_law_decls", "_law_decls", defArgs s__law_decls, defBody s__law_decls, defScope s__law_decls, [], []⟩
def d__law_letters : He.DefD := ⟨("_law_letters", none), "_law_letters", "_law_letters", defArgs s__law_letters, defBody s__law_letters, defScope s__law_letters, [], []⟩
def d__law_is_other : He.DefD := ⟨("_law_is_other", none), "_law_is_other", "_law_is_other", defArgs s__law_is_other, defBody s__law_is_other, defScope s__law_is_other, [], []⟩
def d__law_read : He.DefD := ⟨("_law_read", none), "_law_read", "_law_read", defArgs s__law_read, defBody s__law_read, defScope s__law_read, [], []⟩
def d__law_row : He.DefD := ⟨("_law_row", none), "_law_row", "_law_row", defArgs s__law_row, defBody s__law_row, defScope s__law_row, [], []⟩
def d_law : He.DefD := ⟨("law", none), "law", "law", defArgs s_law, defBody s_law, defScope s_law, [], []⟩
def hfn : List He.DefD := [d_answers_of, d_questions_of, d_letters_of_args, d_letters, d_is_other, d_move_text, d_read_play, d__law_cell, d__law_numbers, d__law_decls, d__law_letters, d__law_is_other, d__law_read, d__law_row, d_law]
def hfa : List He.Fa := [.glo "answers_of", .glo "questions_of", .glo "letters_of_args", .glo "letters", .glo "is_other", .glo "move_text", .glo "read_play", .glo "_law_cell", .glo "_law_numbers", .glo "_law_decls", .glo "_law_letters", .glo "_law_is_other", .glo "_law_read", .glo "_law_row", .glo "law", .free "enumerate", .free "int", .free "isinstance", .free "len", .free "list", .free "max", .free "min", .free "range", .free "sorted", .free "str", .free "tuple", .glo "BadForm", .glo "BadName", .glo "DoppelError", .glo "NotAllowed", .exc "BadForm", .exm "BadForm" "BadForm" true, .exm "BadName" "BadForm" false, .exm "DoppelError" "BadForm" false, .exm "NotAllowed" "BadForm" false]
def hts : List He.Tab := []
def hfu : List FaU := [.con "FAULT" (.tup [(.str "!")]), .con "MAX_PLAY" (.int 40), .con "QUESTION" (.tup [(.str ""), (.int 0), (.bl false), (.int 0)]), .con "WIDTH" (.int 3), .isx "BadForm" "BadName" false, .isx "BadForm" "DoppelError" true, .isx "BadForm" "NotAllowed" false, .isx "BadName" "BadName" true, .isx "BadName" "DoppelError" true, .isx "BadName" "NotAllowed" false, .isx "DoppelError" "BadName" false, .isx "DoppelError" "DoppelError" true, .isx "DoppelError" "NotAllowed" false, .isx "NotAllowed" "BadName" false, .isx "NotAllowed" "DoppelError" true, .isx "NotAllowed" "NotAllowed" true]
abbrev R : PySem.W.OpenRow := PySem.W.OpenLaw.row PySem.Challenge.rw_doppelganger_k36_letters_and_texts
abbrev hk : PySem.W.Hook := hookU 5 hfa hfn hts hfu
def ob (s : PySem.W.SharedT) : AlU := obsUG 5 hfa hfn hts hfu (HandSHeadRun.getT s)
theorem ob_eq (s : PySem.W.SharedT) : ob s = hk.obs s.abs := obsUG_eq (HandSHeadRun.getT_eq s)
def hloose : List PySem.Str := (["DoppelError", "NotAllowed", "BadForm", "BadName", "WIDTH", "QUESTION", "FAULT", "MAX_PLAY", "answers_of", "questions_of", "letters_of_args", "letters", "is_other", "move_text", "read_play", "_law_cell"] : List PySem.Str) ++ (["_law_numbers", "_law_decls", "_law_letters", "_law_is_other", "_law_read", "_law_row"] : List PySem.Str)
theorem run (w : World) : HandSHeadRun.RunEq R (PySem.W.view R.prog [25]) hk ob 4000 hloose w :=
  PySem.W.byRow2 "special-get-raises" (P := fun w => HandSHeadRun.RunEq R (PySem.W.view R.prog [25]) hk ob 4000 hloose w)
    (fun w => by
      intro os
      kernel_rfl) (fun w => by
      intro os
      kernel_rfl) w
def adOf (K : PySem.W.Frag) : Nat → Addr
  | 0 => He.ga K "answers_of"
  | 1 => He.ga K "questions_of"
  | 2 => He.ga K "letters_of_args"
  | 3 => He.ga K "letters"
  | 4 => He.ga K "is_other"
  | 5 => He.ga K "move_text"
  | 6 => He.ga K "read_play"
  | 7 => He.ga K "_law_cell"
  | 8 => He.ga K "_law_numbers"
  | 9 => He.ga K "_law_decls"
  | 10 => He.ga K "_law_letters"
  | 11 => He.ga K "_law_is_other"
  | 12 => He.ga K "_law_read"
  | 13 => He.ga K "_law_row"
  | 14 => He.ga K "law"
  | _ => 0
theorem facts {w : World} {K : PySem.W.Frag} {h : Heap} {mg : Str → Option Value} (X : K.In h) (G : h.Ns mainGlobals mg) (c : SaysU hfa hfn hts hfu w K) : ∃ fd : Nat → FuncData, Facts K mg w (adOf K) fd := by
  obtain ⟨f0, F0⟩ := c.t.d.def_ 0 (d := d_answers_of) rfl
  obtain ⟨f1, F1⟩ := c.t.d.def_ 1 (d := d_questions_of) rfl
  obtain ⟨f2, F2⟩ := c.t.d.def_ 2 (d := d_letters_of_args) rfl
  obtain ⟨f3, F3⟩ := c.t.d.def_ 3 (d := d_letters) rfl
  obtain ⟨f4, F4⟩ := c.t.d.def_ 4 (d := d_is_other) rfl
  obtain ⟨f5, F5⟩ := c.t.d.def_ 5 (d := d_move_text) rfl
  obtain ⟨f6, F6⟩ := c.t.d.def_ 6 (d := d_read_play) rfl
  obtain ⟨f7, F7⟩ := c.t.d.def_ 7 (d := d__law_cell) rfl
  obtain ⟨f8, F8⟩ := c.t.d.def_ 8 (d := d__law_numbers) rfl
  obtain ⟨f9, F9⟩ := c.t.d.def_ 9 (d := d__law_decls) rfl
  obtain ⟨f10, F10⟩ := c.t.d.def_ 10 (d := d__law_letters) rfl
  obtain ⟨f11, F11⟩ := c.t.d.def_ 11 (d := d__law_is_other) rfl
  obtain ⟨f12, F12⟩ := c.t.d.def_ 12 (d := d__law_read) rfl
  obtain ⟨f13, F13⟩ := c.t.d.def_ 13 (d := d__law_row) rfl
  obtain ⟨f14, F14⟩ := c.t.d.def_ 14 (d := d_law) rfl
  refine ⟨fun i => match i with
    | 0 => f0
    | 1 => f1
    | 2 => f2
    | 3 => f3
    | 4 => f4
    | 5 => f5
    | 6 => f6
    | 7 => f7
    | 8 => f8
    | 9 => f9
    | 10 => f10
    | 11 => f11
    | 12 => f12
    | 13 => f13
    | 14 => f14
    | _ => f0, ?_⟩
  exact {
    F0 := F0
    b0 := FunD.bindsN F0 fun _ _ _ _ _ _ us hl => match us, hl with | [_, _, _], _ => rfl
    m0 := He.glo_ok X G (c.t.d.fact 0 (f := .glo "answers_of") rfl)
    F1 := F1
    b1 := FunD.bindsN F1 fun _ _ _ _ _ _ us hl => match us, hl with | [_], _ => rfl
    m1 := He.glo_ok X G (c.t.d.fact 1 (f := .glo "questions_of") rfl)
    F2 := F2
    b2 := FunD.bindsN F2 fun _ _ _ _ _ _ us hl => match us, hl with | [_], _ => rfl
    m2 := He.glo_ok X G (c.t.d.fact 2 (f := .glo "letters_of_args") rfl)
    F3 := F3
    b3 := FunD.bindsN F3 fun _ _ _ _ _ _ us hl => match us, hl with | [_, _], _ => rfl
    m3 := He.glo_ok X G (c.t.d.fact 3 (f := .glo "letters") rfl)
    F4 := F4
    b4 := FunD.bindsN F4 fun _ _ _ _ _ _ us hl => match us, hl with | [_], _ => rfl
    m4 := He.glo_ok X G (c.t.d.fact 4 (f := .glo "is_other") rfl)
    F5 := F5
    b5 := FunD.bindsN F5 fun _ _ _ _ _ _ us hl => match us, hl with | [_, _], _ => rfl
    m5 := He.glo_ok X G (c.t.d.fact 5 (f := .glo "move_text") rfl)
    F6 := F6
    b6 := FunD.bindsN F6 fun _ _ _ _ _ _ us hl => match us, hl with | [_, _, _], _ => rfl
    m6 := He.glo_ok X G (c.t.d.fact 6 (f := .glo "read_play") rfl)
    F7 := F7
    b7 := FunD.bindsN F7 fun _ _ _ _ _ _ us hl => match us, hl with | [_, _], _ => rfl
    m7 := He.glo_ok X G (c.t.d.fact 7 (f := .glo "_law_cell") rfl)
    F8 := F8
    b8 := FunD.bindsN F8 fun _ _ _ _ _ _ us hl => match us, hl with | [_, _, _], _ => rfl
    m8 := He.glo_ok X G (c.t.d.fact 8 (f := .glo "_law_numbers") rfl)
    F9 := F9
    b9 := FunD.bindsN F9 fun _ _ _ _ _ _ us hl => match us, hl with | [_], _ => rfl
    m9 := He.glo_ok X G (c.t.d.fact 9 (f := .glo "_law_decls") rfl)
    F10 := F10
    b10 := FunD.bindsN F10 fun _ _ _ _ _ _ us hl => match us, hl with | [_, _], _ => rfl
    m10 := He.glo_ok X G (c.t.d.fact 10 (f := .glo "_law_letters") rfl)
    F11 := F11
    b11 := FunD.bindsN F11 fun _ _ _ _ _ _ us hl => match us, hl with | [_], _ => rfl
    m11 := He.glo_ok X G (c.t.d.fact 11 (f := .glo "_law_is_other") rfl)
    F12 := F12
    b12 := FunD.bindsN F12 fun _ _ _ _ _ _ us hl => match us, hl with | [_, _, _], _ => rfl
    m12 := He.glo_ok X G (c.t.d.fact 12 (f := .glo "_law_read") rfl)
    F13 := F13
    b13 := FunD.bindsN F13 fun _ _ _ _ _ _ us hl => match us, hl with | [_, _, _, _], _ => rfl
    m13 := He.glo_ok X G (c.t.d.fact 13 (f := .glo "_law_row") rfl)
    F14 := F14
    b14 := FunD.bindsN F14 fun _ _ _ _ _ _ us hl => match us, hl with | [_], _ => rfl
    m14 := He.glo_ok X G (c.t.d.fact 14 (f := .glo "law") rfl)
    z_enumerate := He.free_ok X G (c.t.d.fact 15 (f := .free "enumerate") rfl)
    z_int := He.free_ok X G (c.t.d.fact 16 (f := .free "int") rfl)
    z_isinstance := He.free_ok X G (c.t.d.fact 17 (f := .free "isinstance") rfl)
    z_len := He.free_ok X G (c.t.d.fact 18 (f := .free "len") rfl)
    z_list := He.free_ok X G (c.t.d.fact 19 (f := .free "list") rfl)
    z_max := He.free_ok X G (c.t.d.fact 20 (f := .free "max") rfl)
    z_min := He.free_ok X G (c.t.d.fact 21 (f := .free "min") rfl)
    z_range := He.free_ok X G (c.t.d.fact 22 (f := .free "range") rfl)
    z_sorted := He.free_ok X G (c.t.d.fact 23 (f := .free "sorted") rfl)
    z_str := He.free_ok X G (c.t.d.fact 24 (f := .free "str") rfl)
    z_tuple := He.free_ok X G (c.t.d.fact 25 (f := .free "tuple") rfl)
    c_FAULT := con_ok X G (c.f 0 (f := .con "FAULT" (.tup [(.str "!")])) rfl)
    c_MAX_PLAY := con_ok X G (c.f 1 (f := .con "MAX_PLAY" (.int 40)) rfl)
    c_QUESTION := con_ok X G (c.f 2 (f := .con "QUESTION" (.tup [(.str ""), (.int 0), (.bl false), (.int 0)])) rfl)
    c_WIDTH := con_ok X G (c.f 3 (f := .con "WIDTH" (.int 3)) rfl)
    x_BadForm := exn_ok X G (c.t.d.fact 26 (f := .glo "BadForm") rfl) (c.t.d.fact 30 (f := .exc "BadForm") rfl)
    xm_BadForm_BadForm := exmF_ok X G (c.t.d.fact 26 (f := .glo "BadForm") rfl) (c.t.d.fact 26 (f := .glo "BadForm") rfl) (c.t.d.fact 31 (f := .exm "BadForm" "BadForm" true) rfl)
    xm_BadName_BadForm := exmF_ok X G (c.t.d.fact 27 (f := .glo "BadName") rfl) (c.t.d.fact 26 (f := .glo "BadForm") rfl) (c.t.d.fact 32 (f := .exm "BadName" "BadForm" false) rfl)
    xm_DoppelError_BadForm := exmF_ok X G (c.t.d.fact 28 (f := .glo "DoppelError") rfl) (c.t.d.fact 26 (f := .glo "BadForm") rfl) (c.t.d.fact 33 (f := .exm "DoppelError" "BadForm" false) rfl)
    xm_NotAllowed_BadForm := exmF_ok X G (c.t.d.fact 29 (f := .glo "NotAllowed") rfl) (c.t.d.fact 26 (f := .glo "BadForm") rfl) (c.t.d.fact 34 (f := .exm "NotAllowed" "BadForm" false) rfl)
    is_BadForm_BadName := isxF_ok X G (c.t.d.fact 26 (f := .glo "BadForm") rfl) (c.t.d.fact 27 (f := .glo "BadName") rfl) (c.f 4 (f := .isx "BadForm" "BadName" false) rfl)
    is_BadForm_DoppelError := isxF_ok X G (c.t.d.fact 26 (f := .glo "BadForm") rfl) (c.t.d.fact 28 (f := .glo "DoppelError") rfl) (c.f 5 (f := .isx "BadForm" "DoppelError" true) rfl)
    is_BadForm_NotAllowed := isxF_ok X G (c.t.d.fact 26 (f := .glo "BadForm") rfl) (c.t.d.fact 29 (f := .glo "NotAllowed") rfl) (c.f 6 (f := .isx "BadForm" "NotAllowed" false) rfl)
    is_BadName_BadName := isxF_ok X G (c.t.d.fact 27 (f := .glo "BadName") rfl) (c.t.d.fact 27 (f := .glo "BadName") rfl) (c.f 7 (f := .isx "BadName" "BadName" true) rfl)
    is_BadName_DoppelError := isxF_ok X G (c.t.d.fact 27 (f := .glo "BadName") rfl) (c.t.d.fact 28 (f := .glo "DoppelError") rfl) (c.f 8 (f := .isx "BadName" "DoppelError" true) rfl)
    is_BadName_NotAllowed := isxF_ok X G (c.t.d.fact 27 (f := .glo "BadName") rfl) (c.t.d.fact 29 (f := .glo "NotAllowed") rfl) (c.f 9 (f := .isx "BadName" "NotAllowed" false) rfl)
    is_DoppelError_BadName := isxF_ok X G (c.t.d.fact 28 (f := .glo "DoppelError") rfl) (c.t.d.fact 27 (f := .glo "BadName") rfl) (c.f 10 (f := .isx "DoppelError" "BadName" false) rfl)
    is_DoppelError_DoppelError := isxF_ok X G (c.t.d.fact 28 (f := .glo "DoppelError") rfl) (c.t.d.fact 28 (f := .glo "DoppelError") rfl) (c.f 11 (f := .isx "DoppelError" "DoppelError" true) rfl)
    is_DoppelError_NotAllowed := isxF_ok X G (c.t.d.fact 28 (f := .glo "DoppelError") rfl) (c.t.d.fact 29 (f := .glo "NotAllowed") rfl) (c.f 12 (f := .isx "DoppelError" "NotAllowed" false) rfl)
    is_NotAllowed_BadName := isxF_ok X G (c.t.d.fact 29 (f := .glo "NotAllowed") rfl) (c.t.d.fact 27 (f := .glo "BadName") rfl) (c.f 13 (f := .isx "NotAllowed" "BadName" false) rfl)
    is_NotAllowed_DoppelError := isxF_ok X G (c.t.d.fact 29 (f := .glo "NotAllowed") rfl) (c.t.d.fact 28 (f := .glo "DoppelError") rfl) (c.f 14 (f := .isx "NotAllowed" "DoppelError" true) rfl)
    is_NotAllowed_NotAllowed := isxF_ok X G (c.t.d.fact 29 (f := .glo "NotAllowed") rfl) (c.t.d.fact 29 (f := .glo "NotAllowed") rfl) (c.f 15 (f := .isx "NotAllowed" "NotAllowed" true) rfl)
  }
end Lw
namespace Lw
open PySem PySem.Spec PyProof.Rows L2 RZ Dg
section
variable {s : Slots} {μ : Mem} {Q : U → Mem → Prop} {E : Str → Mem → Prop}
theorem w_powI {i j : Int} : wpE (uPow (.int i) (.int j) μ) Q E = ((0 ≤ j ∧ j ≤ 1000000 ∧ i.natAbs < 2 ^ 64) ∧ Q (.int (i ^ j.toNat)) μ) := by
  show wpE (if 0 ≤ j ∧ j ≤ 1000000 ∧ i.natAbs < 2 ^ 64 then _ else _) Q E = _
  split
  · rename_i h; simp only [h, wpE, true_and]
  · rename_i h; simp only [h, wpE, false_and]
theorem w_isi {T : String} {a : FE} : wpE (fIsi T a s μ) Q E = wpE (a s μ) (fun u μ1 => ∃ t, tyU μ1 u = some t ∧ Q (.bl (isTy T t)) μ1) E := by
  unfold fIsi; rw [w_bind]; congr 1; funext u μ1
  cases tyU μ1 u <;> simp [wpE]
theorem w_neg {a : FE} : wpE (fNeg a s μ) Q E = wpE (a s μ) (fun u μ1 => ∃ i, u = .int i ∧ Q (.int (-i)) μ1) E := by
  unfold fNeg; rw [w_bind]; congr 1; funext u μ1
  cases u <;> simp [wpE]
theorem w_andE {a b : FE} : wpE (fAnd a b s μ) Q E = wpE (a s μ) (fun u μ1 => ∃ c, u = .bl c ∧ if c = true then wpE (b s μ1) Q E else Q (.bl false) μ1) E := by
  unfold fAnd; rw [w_bind]; congr 1; funext u μ1
  cases u with
  | bl c => cases c <;> simp [wpE]
  | _ => simp [wpE]
theorem w_orE {a b : FE} : wpE (fOr a b s μ) Q E = wpE (a s μ) (fun u μ1 => ∃ c, u = .bl c ∧ if c = true then Q (.bl true) μ1 else wpE (b s μ1) Q E) E := by
  unfold fOr; rw [w_bind]; congr 1; funext u μ1
  cases u with
  | bl c => cases c <;> simp [wpE]
  | _ => simp [wpE]
theorem w_notE {a : FE} : wpE (fNot a s μ) Q E = wpE (a s μ) (fun u μ1 => ∃ c, u = .bl c ∧ Q (.bl (!c)) μ1) E := by
  unfold fNot; rw [w_bind]; congr 1; funext u μ1
  cases u <;> simp [wpE]
theorem w_chain {f g : U → U → Mem → Res U} {a b c : FE} : wpE (fChain f g a b c s μ) Q E = wpE (a s μ) (fun x μ1 => wpE (b s μ1) (fun y μ2 => wpE (f x y μ2) (fun z μ3 => ∃ t, z = .bl t ∧ if t = true then wpE (c s μ3) (fun w μ4 => wpE (g y w μ4) Q E) E else Q (.bl false) μ3) E) E) E := by
  unfold fChain; rw [w_bind]; congr 1; funext x μ1; rw [w_bind]; congr 1; funext y μ2; rw [w_bind]; congr 1; funext z μ3
  cases z with
  | bl t =>
    cases t with
    | false => simp [wpE]
    | true =>
      show wpE ((c s μ3).bind fun w μ4 => g y w μ4) Q E = _
      rw [w_bind]
      simp
  | _ => simp [wpE]
theorem s_raise {x : Str} {a : FE} {D : Dn} : wpS (sRaise x a s μ) D = wpE (a s μ) (fun u μ1 => D.ex x s μ1) (fun c μ => D.ex c s μ) := by
  unfold sRaise; rw [w_ofR]
  rfl
theorem ty_L {r : Nat} {us : List U} (h : μ[r]? = some (.lst us)) : tyU μ (.ref r) = some "list" := by unfold tyU; simp only [h]
theorem ty_T {us : List U} : tyU μ (.tup us) = some "tuple" := rfl
theorem ty_I {i : Int} : tyU μ (.int i) = some "int" := rfl
theorem ty_B {b : Bool} : tyU μ (.bl b) = some "bool" := rfl
theorem tru_b {b : Bool} : truU μ (.bl b) = some b := rfl
theorem truL {r : Nat} {us : List U} (h : μ[r]? = some (.lst us)) : truU μ (.ref r) = some (!us.isEmpty) := by
  unfold truU; simp only [h]
end

/-- all cells stay -/
structure Fr (μ μ' : Mem) : Prop where
  le : μ.length ≤ μ'.length
  at_ : ∀ (i : Nat) (c : Cell), μ[i]? = some c → μ'[i]? = some c
section
variable {μ μ' μ'' : Mem}
theorem Fr.refl : Fr μ μ := ⟨Nat.le_refl _, fun _ _ h => h⟩
theorem Fr.trans (a : Fr μ μ') (b : Fr μ' μ'') : Fr μ μ'' := ⟨Nat.le_trans a.le b.le, fun i c h => b.at_ i c (a.at_ i c h)⟩
theorem Fr.snoc {c : Cell} (a : Fr μ μ') : Fr μ (μ' ++ [c]) := ⟨by have := a.le; simp; omega, fun i d h => get_snoc_lt (a.at_ i d h)⟩
theorem Fr.put {c : Cell} {i : Nat} (a : Fr μ μ') (h : μ.length ≤ i) : Fr μ (μ'.set i c) := ⟨by simpa using a.le, fun j d hj => get_set_ne (a.at_ j d hj) (by have := get_lt hj; omega)⟩
end
section
variable {s : Slots} {μ : Mem} {Q : U → Mem → Prop} {E : Str → Mem → Prop}
theorem w_sl {a : FE} {lo hi : FO} : wpE (fSl a lo hi s μ) Q E = wpE (a s μ) (fun u μ1 => wpE (lo s μ1) (fun l μ2 => wpE (hi s μ2) (fun h μ3 => wpE (slU u l h μ3) Q E) E) E) E := by
  unfold fSl; rw [w_bind]; congr 1; funext u μ1; rw [w_bind]; congr 1; funext l μ2; rw [w_bind]
theorem w_oNone {Q : Option Int → Mem → Prop} : wpE (oNone s μ) Q E = Q none μ := propext ⟨fun h => h, fun h => h⟩
theorem w_oSome {a : FE} {Q : Option Int → Mem → Prop} : wpE (oSome a s μ) Q E = wpE (a s μ) (fun u μ1 => ∃ i, u = .int i ∧ Q (some i) μ1) E := by
  unfold oSome; rw [w_bind]; congr 1; funext u μ1
  cases u <;> simp [wpE]
theorem sl_L {r : Nat} {us : List U} {lo hi : Option Int} (h : μ[r]? = some (.lst us)) : slU (.ref r) lo hi μ = .ok (.ref μ.length) (μ ++ [.lst (cutU us lo hi)]) := by
  unfold slU; simp only [lstU_L h]
theorem w_slL {r : Nat} {us : List U} {lo hi : Option Int} (h : μ[r]? = some (.lst us)) : wpE (slU (.ref r) lo hi μ) Q E = Q (.ref μ.length) (μ ++ [.lst (cutU us lo hi)]) := by rw [sl_L h]; rfl
theorem w_slT {us : List U} {lo hi : Option Int} : wpE (slU (.tup us) lo hi μ) Q E = Q (.tup (cutU us lo hi)) μ := propext ⟨fun h => h, fun h => h⟩
theorem w_slF {us : List U} {lo hi : Option Int} : wpE (slU (.frl us) lo hi μ) Q E = Q (.ref μ.length) (μ ++ [.lst (cutU us lo hi)]) := propext ⟨fun h => h, fun h => h⟩
theorem w_ixF {us : List U} {i : Int} : wpE (ixU (.frl us) (.int i) μ) Q E = ∃ a, atI us i = some a ∧ Q a μ := w_res
theorem w_lenF {us : List U} : wpE (bLen [.frl us] μ) Q E = Q (.int us.length) μ := propext ⟨fun h => h, fun h => h⟩
theorem w_lenS {z : Str} : wpE (bLen [.str z] μ) Q E = (z.length ≤ lim ∧ Q (.int z.length) μ) := by
  by_cases h : z.length ≤ lim
  · have : bLen [.str z] μ = .ok (.int z.length) μ := by unfold bLen lenU; simp only [h, if_true]
    rw [this]; simp [wpE, h]
  · have : bLen [.str z] μ = .bad := by unfold bLen lenU; simp only [h, if_false]
    rw [this]; simp [wpE, h]
theorem w_abs {i : Int} : wpE (bAbs [.int i] μ) Q E = Q (.int i.natAbs) μ := by
  show Q (.int (if i < 0 then -i else i)) μ = _
  congr 2; split <;> omega
theorem w_max2 {i j : Int} : wpE (bMax [.int i, .int j] μ) Q E = Q (.int (max i j)) μ := by
  show Q (.int (if j > i then j else i)) μ = _
  congr 2; split <;> omega
theorem w_min2 {i j : Int} : wpE (bMin [.int i, .int j] μ) Q E = Q (.int (min i j)) μ := by
  show Q (.int (if j < i then j else i)) μ = _
  congr 2; split <;> omega
end
theorem s_tryAs {tab : List (Str × Bool)} {i : Nat} {b : FS} {ms : Str → FE} {s : Slots} {μ : Mem} {D : Dn} : wpS (sTryAs tab i b ms s μ) D = wpS (b s μ) { D with ex := fun c s1 μ1 => ∃ t, tab.lookup c = some t ∧ if t = true then i < s1.length ∧ wpE (ms c (s1.set i none) μ1) (fun u μ2 => D.rt u μ2) (fun c μ => D.ex c (s1.set i none) μ) else D.ex c s1 μ1 } := by
  unfold sTryAs
  cases b s μ with
  | ex c s1 μ1 =>
    show Dg.wpS (match tab.lookup c with
      | some true => _
      | some false => _
      | none => _) D = ∃ t, tab.lookup c = some t ∧ _
    cases tab.lookup c with
    | none => simp [Dg.wpS]
    | some t =>
      cases t with
      | false => simp [Dg.wpS]
      | true =>
        simp only [Option.some.injEq, exists_eq_left', if_true]
        split
        · rename_i h; simp only [h, true_and]; exact w_ofR
        · rename_i h; simp [h, Dg.wpS]
  | _ => rfl
theorem s_try {tab : List (Str × Bool)} {b u : FS} {s : Slots} {μ : Mem} {D : Dn} : wpS (sTry tab b u s μ) D = wpS (b s μ) { D with ex := fun c s1 μ1 => ∃ t, tab.lookup c = some t ∧ if t = true then wpS (u s1 μ1) D else D.ex c s1 μ1 } := by
  unfold sTry
  cases b s μ with
  | ex c s1 μ1 =>
    show Dg.wpS (match tab.lookup c with
      | some true => _
      | some false => _
      | none => _) D = ∃ t, tab.lookup c = some t ∧ _
    cases tab.lookup c with
    | none => simp [Dg.wpS]
    | some t =>
      cases t with
      | false => simp [Dg.wpS]
      | true => simp
  | _ => rfl
theorem w_isX {tab : List (Str × Bool)} {c : Str} {s : Slots} {μ : Mem} {Q : U → Mem → Prop} {E : Str → Mem → Prop} : wpE (fIsX tab c s μ) Q E = ∃ b, tab.lookup c = some b ∧ Q (.bl b) μ := by
  unfold fIsX
  cases tab.lookup c with
  | none => simp [wpE]
  | some b => simp [w_c]
/-! texts with places -/
theorem strOk_of (x : String) : PyData.strOk (Str.ofString x) = true := by
  rw [Str.ofString_eq_toList]
  unfold PyData.strOk
  rw [Array.all_eq_true']
  intro c hc
  simp only [List.mem_toArray, List.mem_map] at hc
  obtain ⟨ch, _, rfl⟩ := hc
  have := ch.valid
  simp only [decide_eq_true_eq]
  rcases this with h | h
  · exact Nat.lt_of_lt_of_le h (by decide)
  · exact h.2
def fmtOk (u : U) (y : Str) : Prop := (u = .str y ∧ y.length ≤ lim) ∨ ∃ i : Int, u = .int i ∧ i.natAbs.log2 < 1920 ∧ y = (toString i : Str)
section
variable {s : Slots} {μ : Mem} {Q : U → Mem → Prop} {E : Str → Mem → Prop}
theorem w_fmt {a : FE} : wpE (fFmt a s μ) Q E = wpE (a s μ) (fun u μ1 => ∃ y, fmtOk u y ∧ Q (.str y) μ1) E := by
  unfold fFmt; rw [w_bind]; congr 1; funext u μ1
  cases u with
  | str y =>
    apply propext
    constructor
    · intro h
      simp only at h
      split at h
      · rename_i hl; exact ⟨y, .inl ⟨rfl, hl⟩, h⟩
      · exact h.elim
    · rintro ⟨z, h | ⟨i, h, _⟩, q⟩
      · cases h.1; simp only [h.2, if_true]; exact q
      · cases h
  | int i =>
    apply propext
    constructor
    · intro h
      simp only at h
      split at h
      · rename_i hl; exact ⟨_, .inr ⟨i, rfl, hl.1, rfl⟩, h⟩
      · exact h.elim
    · rintro ⟨z, h | ⟨j, h, h2, h3⟩, q⟩
      · cases h.1
      · cases h; subst h3; simp only [h2, strOk_of, and_self, if_true]; exact q
  | _ =>
    apply propext
    constructor
    · intro h; exact h.elim
    · rintro ⟨z, h | ⟨j, h, h2, h3⟩, q⟩
      · cases h.1
      · cases h
theorem w_js0 {acc : Str} : wpE (fJs [] acc s μ) Q E = Q (.str acc) μ := propext ⟨fun h => h, fun h => h⟩
theorem w_js {p : FE} {ps : List FE} {acc : Str} : wpE (fJs (p :: ps) acc s μ) Q E = wpE (p s μ) (fun u μ1 => ∃ y, u = .str y ∧ (acc ++ y).length ≤ lim ∧ wpE (fJs ps (acc ++ y) s μ1) Q E) E := by
  show wpE ((p s μ).bind _) Q E = _
  rw [w_bind]; congr 1; funext u μ1
  cases u with
  | str y =>
    simp only [U.str.injEq, exists_eq_left']
    split
    · rename_i h; simp [h]
    · rename_i h; simp [h, wpE]
  | _ => simp [wpE]
theorem len_app (a b : Str) : (a ++ b).length = a.length + b.length := by
  show (a.cps ++ b.cps).size = a.cps.size + b.cps.size
  simp
theorem fmt_str {y : Str} (h : y.length ≤ lim) : fmtOk (.str y) y := .inl ⟨rfl, h⟩
theorem fmt_int {i : Int} (h : i.natAbs < 2 ^ 64) : fmtOk (.int i) (toString i : Str) := .inr ⟨i, rfl, by
  have := Nat.log2_lt (n := i.natAbs) (k := 64)
  by_cases z : i.natAbs = 0
  · rw [z]; decide
  · have := (this z).mpr h
    omega, rfl⟩
end
/-! what is pure: data without lists; == of it -/
mutual
def sz : U → Nat
  | .tup us => 1 + szs us
  | _ => 1
def szs : List U → Nat
  | [] => 0
  | u :: us => sz u + szs us
end
mutual
def dp : U → Nat
  | .tup us => dps us + 1
  | _ => 0
def dps : List U → Nat
  | [] => 0
  | u :: us => max (dp u) (dps us)
end
mutual
def pu : U → Bool
  | .tup us => pus us
  | .str _ => true
  | .int _ => true
  | .bl _ => true
  | .non => true
  | _ => false
def pus : List U → Bool
  | [] => true
  | u :: us => pu u && pus us
end
mutual
theorem pu_data {u : U} (h : pu u = true) : ∃ d : PyData, (∀ g, toD g u = some d) ∧ PyData.eqv d d = true ∧ d.depth = dp u := by
  cases u with
  | tup us =>
    obtain ⟨ds, h1, h2, h3⟩ := pus_data (us := us) (by simpa [pu] using h)
    exact ⟨.tuple ds, fun g => by simp [toD, h1], by simpa [PyData.eqv] using h2, by simp [PyData.depth, dp, h3]⟩
  | str s => exact ⟨.str s, fun g => rfl, by simp [PyData.eqv], by simp [PyData.depth, dp]⟩
  | int i => exact ⟨.int i, fun g => rfl, by simp [PyData.eqv], by simp [PyData.depth, dp]⟩
  | bl b => exact ⟨.bool b, fun g => rfl, by simp [PyData.eqv], by simp [PyData.depth, dp]⟩
  | non => exact ⟨.none, fun g => rfl, by simp [PyData.eqv], by simp [PyData.depth, dp]⟩
  | _ => simp [pu] at h
theorem pus_data {us : List U} (h : pus us = true) : ∃ ds : List PyData, (∀ g, toDs g us = some ds) ∧ PyData.eqvAll ds ds = true ∧ PyData.depthAll ds = dps us := by
  cases us with
  | nil => exact ⟨[], fun g => rfl, rfl, rfl⟩
  | cons u us =>
    obtain ⟨h1, h2⟩ : pu u = true ∧ pus us = true := by simpa [pus] using h
    obtain ⟨d, a1, a2, a3⟩ := pu_data h1
    obtain ⟨ds, b1, b2, b3⟩ := pus_data h2
    exact ⟨d :: ds, fun g => by simp [toDs, a1, b1], by simp [PyData.eqvAll, a2, b2], by simp [PyData.depthAll, dps, a3, b3]⟩
end
/-- == of the same -/
theorem eq_self {u : U} {μ : Mem} (h : pu u = true) (hd : dp u ≤ 800) : eqU u u μ = some true := by
  obtain ⟨d, a, b, c⟩ := pu_data h
  unfold Dg.eqU datU
  simp only [a]
  rw [if_pos (by rw [c]; simp [eqLim]; omega), b]
/-- == of two lists of the same -/
theorem eq_lists {r1 r2 : Nat} {us : List U} {μ : Mem} (h1 : μ[r1]? = some (.lst us)) (h2 : μ[r2]? = some (.lst us)) (h : pus us = true) (hd : dps us ≤ 799) : eqU (.ref r1) (.ref r2) μ = some true := by
  obtain ⟨ds, a, b, c⟩ := pus_data h
  have e1 : datU μ (.ref r1) = some (.list ds) := by simp [datU, toD, refD, h1, a]
  have e2 : datU μ (.ref r2) = some (.list ds) := by simp [datU, toD, refD, h2, a]
  unfold Dg.eqU
  simp only [e1, e2]
  rw [if_pos (by simp [PyData.depth, c, eqLim]; omega)]
  simp [PyData.eqv, b]
/-! the same without truth values: == is = -/
mutual
def pd : U → Bool
  | .tup us => pds us
  | .str _ => true
  | .int _ => true
  | .non => true
  | _ => false
def pds : List U → Bool
  | [] => true
  | u :: us => pd u && pds us
end
mutual
theorem pd_pu {u : U} (h : pd u = true) : pu u = true := by
  cases u with
  | tup us => simp only [pu]; exact pds_pus (by simpa [pd] using h)
  | str s => rfl
  | int i => rfl
  | non => rfl
  | _ => simp [pd] at h
theorem pds_pus {us : List U} (h : pds us = true) : pus us = true := by
  cases us with
  | nil => rfl
  | cons u us =>
    obtain ⟨h1, h2⟩ : pd u = true ∧ pds us = true := by simpa [pds] using h
    simp [pus, pd_pu h1, pds_pus h2]
end
mutual
theorem pd_eq {u w : U} {g : Nat → Option PyData} {d e : PyData} (hu : pd u = true) (hw : pd w = true) (du : toD g u = some d) (dw : toD g w = some e) : PyData.eqv d e = true ↔ u = w := by
  cases u with
  | tup us =>
    simp only [toD, Option.map_eq_some_iff] at du
    obtain ⟨ds, du, rfl⟩ := du
    cases w with
    | tup ws =>
      simp only [toD, Option.map_eq_some_iff] at dw
      obtain ⟨es, dw, rfl⟩ := dw
      have := pds_eq (by simpa [pd] using hu) (by simpa [pd] using hw) du dw
      simp only [PyData.eqv, this, U.tup.injEq]
    | str s => cases dw; simp [PyData.eqv]
    | int i => cases dw; simp [PyData.eqv]
    | non => cases dw; simp [PyData.eqv]
    | _ => simp [pd] at hw
  | str s =>
    cases du
    cases w with
    | tup ws =>
      simp only [toD, Option.map_eq_some_iff] at dw
      obtain ⟨es, dw, rfl⟩ := dw
      simp [PyData.eqv]
    | str s => cases dw; simp [PyData.eqv]
    | int i => cases dw; simp [PyData.eqv]
    | non => cases dw; simp [PyData.eqv]
    | _ => simp [pd] at hw
  | int s =>
    cases du
    cases w with
    | tup ws =>
      simp only [toD, Option.map_eq_some_iff] at dw
      obtain ⟨es, dw, rfl⟩ := dw
      simp [PyData.eqv]
    | str s => cases dw; simp [PyData.eqv]
    | int i => cases dw; simp [PyData.eqv]
    | non => cases dw; simp [PyData.eqv]
    | _ => simp [pd] at hw
  | non =>
    cases du
    cases w with
    | tup ws =>
      simp only [toD, Option.map_eq_some_iff] at dw
      obtain ⟨es, dw, rfl⟩ := dw
      simp [PyData.eqv]
    | str s => cases dw; simp [PyData.eqv]
    | int i => cases dw; simp [PyData.eqv]
    | non => cases dw; simp [PyData.eqv]
    | _ => simp [pd] at hw
  | _ => simp [pd] at hu
theorem pds_eq {us ws : List U} {g : Nat → Option PyData} {ds es : List PyData} (hu : pds us = true) (hw : pds ws = true) (du : toDs g us = some ds) (dw : toDs g ws = some es) : PyData.eqvAll ds es = true ↔ us = ws := by
  cases us with
  | nil =>
    cases du
    cases ws with
    | nil => cases dw; simp [PyData.eqvAll]
    | cons w ws =>
      simp only [toDs] at dw
      split at dw
      · cases dw; simp [PyData.eqvAll]
      · cases dw
  | cons u us =>
    obtain ⟨h1, h2⟩ : pd u = true ∧ pds us = true := by simpa [pds] using hu
    simp only [toDs] at du
    split at du
    · rename_i d ds' d1 d2
      cases du
      cases ws with
      | nil => cases dw; simp [PyData.eqvAll]
      | cons w ws =>
        obtain ⟨k1, k2⟩ : pd w = true ∧ pds ws = true := by simpa [pds] using hw
        simp only [toDs] at dw
        split at dw
        · rename_i e es' e1 e2
          cases dw
          simp only [PyData.eqvAll, Bool.and_eq_true, pd_eq h1 k1 d1 e1, pds_eq h2 k2 d2 e2, List.cons.injEq]
        · cases dw
    · cases du
end
/-- == of data without truth values -/
theorem eq_pd {u w : U} {μ : Mem} (hu : pd u = true) (hw : pd w = true) (hd : min (dp u) (dp w) ≤ 800) : ∃ b, eqU u w μ = some b ∧ (b = true ↔ u = w) := by
  obtain ⟨d, a, _, c⟩ := pu_data (pd_pu hu)
  obtain ⟨e, a2, _, c2⟩ := pu_data (pd_pu hw)
  refine ⟨PyData.eqv d e, ?_, pd_eq hu hw (a (fun _ => none)) (a2 _)⟩
  unfold Dg.eqU datU
  simp only [a, a2]
  rw [if_pos (by rw [c, c2]; simp [eqLim]; omega)]
theorem eq_lpd {r1 r2 : Nat} {us ws : List U} {μ : Mem} (h1 : μ[r1]? = some (.lst us)) (h2 : μ[r2]? = some (.lst ws)) (hu : pds us = true) (hw : pds ws = true) (hd : min (dps us) (dps ws) ≤ 799) : ∃ b, eqU (.ref r1) (.ref r2) μ = some b ∧ (b = true ↔ us = ws) := by
  obtain ⟨ds, a, _, c⟩ := pus_data (pds_pus hu)
  obtain ⟨es, a2, _, c2⟩ := pus_data (pds_pus hw)
  have e1 : datU μ (.ref r1) = some (.list ds) := by simp [datU, toD, refD, h1, a]
  have e2 : datU μ (.ref r2) = some (.list es) := by simp [datU, toD, refD, h2, a2]
  refine ⟨PyData.eqv (.list ds) (.list es), ?_, ?_⟩
  · unfold Dg.eqU
    simp only [e1, e2]
    rw [if_pos (by simp [PyData.depth, c, c2, eqLim]; omega)]
  · simp only [PyData.eqv]
    exact pds_eq hu hw (a (fun _ => none)) (a2 _)
/-- the run ends and gives True -/
structure Yes (r : Res U) : Prop where
  ap : ∃ μ, r = .ok (.bl true) μ
theorem Yes.of {r : Res U} (h : wpE r (fun u _ => u = .bl true) (fun _ _ => False)) : Yes r := by
  obtain ⟨a, μ', e, rfl⟩ := wpE.get h
  exact ⟨μ', e⟩
/-! loops by what they walk -/
section
variable {s : Slots} {μ : Mem} {D : Dn} {g : Tgt} {b : FS}
theorem for_rng {m : Nat} (n : Nat) (I : Nat → Slots → Mem → Prop) (hm : m = n) (hn : n < 1000000) (h0 : I 0 s μ)
    (step : ∀ i s μ, i < n → I i s μ → ∃ s1, setT g (.int (i : Int)) s = some s1 ∧ Dg.wpS (b s1 μ) ⟨I (i + 1), D.rt, D.nx, I (i + 1), D.ex⟩) (fin : ∀ s μ, I n s μ → D.nx s μ) : Dg.wpS (sForGo g b fuelF (.rng 0 1 m) 0 s μ) D := by
  subst hm
  refine for_go (fun i s μ => i ≤ m ∧ I i s μ) m hn ⟨by omega, h0⟩ (fun i s μ h => h.1) ?_
  rintro i s μ ⟨hi, h⟩
  rw [item_rng]
  by_cases e : i < m
  · right
    obtain ⟨s1, e1, e2⟩ := step i s μ e h
    refine ⟨_, s1, by rw [if_pos e], by rw [show (0 : Int) + (i : Int) * 1 = (i : Int) by omega]; exact e1, wpS.mono e2 (fun _ _ q => ⟨by omega, q⟩) (fun _ _ q => q) (fun _ _ q => q) (fun _ _ q => ⟨by omega, q⟩) fun _ _ _ q => q⟩
  · left
    have : i = m := by omega
    subst this
    exact ⟨by rw [if_neg e], fin s μ h⟩
theorem for_seq {us : List U} (I : Nat → Slots → Mem → Prop) (hn : us.length < 1000000) (h0 : I 0 s μ)
    (step : ∀ i s μ (h : i < us.length), I i s μ → ∃ s1, setT g us[i] s = some s1 ∧ Dg.wpS (b s1 μ) ⟨I (i + 1), D.rt, D.nx, I (i + 1), D.ex⟩) (fin : ∀ s μ, I us.length s μ → D.nx s μ) : Dg.wpS (sForGo g b fuelF (.seq us) 0 s μ) D := by
  refine for_go (fun i s μ => i ≤ us.length ∧ I i s μ) us.length hn ⟨by omega, h0⟩ (fun i s μ h => h.1) ?_
  rintro i s μ ⟨hi, h⟩
  rw [item_seq]
  by_cases e : i < us.length
  · right
    obtain ⟨s1, e1, e2⟩ := step i s μ e h
    exact ⟨us[i], s1, by rw [List.getElem?_eq_getElem e], e1, wpS.mono e2 (fun _ _ q => ⟨by omega, q⟩) (fun _ _ q => q) (fun _ _ q => q) (fun _ _ q => ⟨by omega, q⟩) fun _ _ _ q => q⟩
  · left
    have : i = us.length := by omega
    subst this
    exact ⟨by rw [List.getElem?_eq_none (by omega)], fin s μ h⟩
theorem for_live {r : Nat} (us : List U) (I : Nat → Slots → Mem → Prop) (hn : us.length < 1000000) (h0 : I 0 s μ) (hc : ∀ i s μ, I i s μ → μ[r]? = some (.lst us))
    (step : ∀ i s μ (h : i < us.length), I i s μ → ∃ s1, setT g us[i] s = some s1 ∧ Dg.wpS (b s1 μ) ⟨I (i + 1), D.rt, D.nx, I (i + 1), D.ex⟩) (fin : ∀ s μ, I us.length s μ → D.nx s μ) : Dg.wpS (sForGo g b fuelF (.live r) 0 s μ) D := by
  refine for_go (fun i s μ => i ≤ us.length ∧ I i s μ) us.length hn ⟨by omega, h0⟩ (fun i s μ h => h.1) ?_
  rintro i s μ ⟨hi, h⟩
  rw [item_live (hc i s μ h)]
  by_cases e : i < us.length
  · right
    obtain ⟨s1, e1, e2⟩ := step i s μ e h
    exact ⟨us[i], s1, by rw [List.getElem?_eq_getElem e], e1, wpS.mono e2 (fun _ _ q => ⟨by omega, q⟩) (fun _ _ q => q) (fun _ _ q => q) (fun _ _ q => ⟨by omega, q⟩) fun _ _ _ q => q⟩
  · left
    have : i = us.length := by omega
    subst this
    exact ⟨by rw [List.getElem?_eq_none (by omega)], fin s μ h⟩
end
section
variable {own : List Nat} {g : Tgt} {t : FT} {e : FE} {s : Slots} {d : Nat} {μ : Mem} {Q : U → Mem → Prop} {E : Str → Mem → Prop}
theorem lc_rng {m : Nat} (n : Nat) (I : Nat → Mem → Prop) (hm : m = n) (hn : n < 1000000) (h0 : I 0 μ)
    (step : ∀ i μ, i < n → I i μ → ∃ s1, setT g (.int (i : Int)) (wipeU s own) = some s1 ∧
      wpE (t s1 μ) (fun b μ3 => if b = true then wpE (e s1 μ3) (fun v μ4 => ∃ acc, μ4[d]? = some (.lst acc) ∧ acc.length < lim ∧ I (i + 1) (μ4.set d (.lst (acc ++ [v])))) (fun _ _ => False) else I (i + 1) μ3) (fun _ _ => False))
    (fin : ∀ μ, I n μ → Q (.ref d) μ) : wpE (lcGo (.rng 0 1 m) own g t e s d fuelF 0 μ) Q E := by
  subst hm
  refine lc_go (fun i μ => i ≤ m ∧ I i μ) m hn ⟨by omega, h0⟩ (fun i μ h => h.1) ?_
  rintro i μ ⟨hi, h⟩
  rw [item_rng]
  by_cases h1 : i < m
  · right
    obtain ⟨s1, e1, e2⟩ := step i μ h1 h
    refine ⟨_, s1, by rw [if_pos h1], by rw [show (0 : Int) + (i : Int) * 1 = (i : Int) by omega]; exact e1, wpE.mono e2 fun b μ3 q => ?_⟩
    cases b with
    | false => exact ⟨by omega, q⟩
    | true => exact wpE.mono q fun v μ4 ⟨acc, a1, a2, a3⟩ => ⟨acc, a1, a2, by omega, a3⟩
  · left
    have : i = m := by omega
    subst this
    exact ⟨by rw [if_neg h1], fin μ h⟩
theorem lc_seq {us : List U} (I : Nat → Mem → Prop) (hn : us.length < 1000000) (h0 : I 0 μ)
    (step : ∀ i μ (h : i < us.length), I i μ → ∃ s1, setT g us[i] (wipeU s own) = some s1 ∧
      wpE (t s1 μ) (fun b μ3 => if b = true then wpE (e s1 μ3) (fun v μ4 => ∃ acc, μ4[d]? = some (.lst acc) ∧ acc.length < lim ∧ I (i + 1) (μ4.set d (.lst (acc ++ [v])))) (fun _ _ => False) else I (i + 1) μ3) (fun _ _ => False))
    (fin : ∀ μ, I us.length μ → Q (.ref d) μ) : wpE (lcGo (.seq us) own g t e s d fuelF 0 μ) Q E := by
  refine lc_go (fun i μ => i ≤ us.length ∧ I i μ) us.length hn ⟨by omega, h0⟩ (fun i μ h => h.1) ?_
  rintro i μ ⟨hi, h⟩
  rw [item_seq]
  by_cases h1 : i < us.length
  · right
    obtain ⟨s1, e1, e2⟩ := step i μ h1 h
    refine ⟨us[i], s1, by rw [List.getElem?_eq_getElem h1], e1, wpE.mono e2 fun b μ3 q => ?_⟩
    cases b with
    | false => exact ⟨by omega, q⟩
    | true => exact wpE.mono q fun v μ4 ⟨acc, a1, a2, a3⟩ => ⟨acc, a1, a2, by omega, a3⟩
  · left
    have : i = us.length := by omega
    subst this
    exact ⟨by rw [List.getElem?_eq_none (by omega)], fin μ h⟩
theorem lc_live {r : Nat} (us : List U) (I : Nat → Mem → Prop) (hn : us.length < 1000000) (h0 : I 0 μ) (hc : ∀ i μ, I i μ → μ[r]? = some (.lst us))
    (step : ∀ i μ (h : i < us.length), I i μ → ∃ s1, setT g us[i] (wipeU s own) = some s1 ∧
      wpE (t s1 μ) (fun b μ3 => if b = true then wpE (e s1 μ3) (fun v μ4 => ∃ acc, μ4[d]? = some (.lst acc) ∧ acc.length < lim ∧ I (i + 1) (μ4.set d (.lst (acc ++ [v])))) (fun _ _ => False) else I (i + 1) μ3) (fun _ _ => False))
    (fin : ∀ μ, I us.length μ → Q (.ref d) μ) : wpE (lcGo (.live r) own g t e s d fuelF 0 μ) Q E := by
  refine lc_go (fun i μ => i ≤ us.length ∧ I i μ) us.length hn ⟨by omega, h0⟩ (fun i μ h => h.1) ?_
  rintro i μ ⟨hi, h⟩
  rw [item_live (hc i μ h)]
  by_cases h1 : i < us.length
  · right
    obtain ⟨s1, e1, e2⟩ := step i μ h1 h
    refine ⟨us[i], s1, by rw [List.getElem?_eq_getElem h1], e1, wpE.mono e2 fun b μ3 q => ?_⟩
    cases b with
    | false => exact ⟨by omega, q⟩
    | true => exact wpE.mono q fun v μ4 ⟨acc, a1, a2, a3⟩ => ⟨acc, a1, a2, by omega, a3⟩
  · left
    have : i = us.length := by omega
    subst this
    exact ⟨by rw [List.getElem?_eq_none (by omega)], fin μ h⟩
end
/-! comprehensions as maps -/
theorem take_snoc {α : Type} {us : List α} {i : Nat} (h : i < us.length) : us.take (i + 1) = us.take i ++ [us[i]] := by
  rw [List.take_succ]; simp [h]
section
variable {own : List Nat} {g : Tgt} {t : FT} {e : FE} {s : Slots} {μ0 : Mem} {Q : U → Mem → Prop} {E : Str → Mem → Prop}
theorem lc_map {us : List U} (f : U → U) (hn : us.length < 1000000)
    (step : ∀ i μ' (h : i < us.length), Fr μ0 μ' → ∃ s1, setT g us[i] (wipeU s own) = some s1 ∧ wpE (e s1 μ') (fun w μ'' => w = f us[i] ∧ Fr μ' μ'') (fun _ _ => False))
    (fin : ∀ μ', Fr μ0 μ' → μ'[μ0.length]? = some (.lst (us.map f)) → Q (.ref μ0.length) μ') : wpE (lcGo (.seq us) own g tAll e s μ0.length fuelF 0 (μ0 ++ [.lst []])) Q E := by
  refine lc_seq (fun i μ' => Fr μ0 μ' ∧ μ'[μ0.length]? = some (.lst ((us.take i).map f))) hn ⟨Fr.refl.snoc, by simp⟩ ?_ ?_
  · rintro i μ1 hi ⟨f1, c1⟩
    obtain ⟨s1, a1, a2⟩ := step i μ1 hi f1
    refine ⟨s1, a1, ?_⟩
    show wpE (e s1 μ1) _ _
    refine wpE.mono a2 ?_
    rintro w μ2 ⟨rfl, f2⟩
    refine ⟨_, f2.at_ _ _ c1, by simp [lim]; omega, (f1.trans f2).put (Nat.le_refl _), ?_⟩
    rw [get_set (f2.at_ _ _ c1), take_snoc hi, List.map_append]
    rfl
  · rintro μ1 ⟨f1, c1⟩
    rw [List.take_length] at c1
    exact fin μ1 f1 c1
theorem lc_mapL {r : Nat} {us : List U} (hr : μ0[r]? = some (.lst us)) (f : U → U) (hn : us.length < 1000000)
    (step : ∀ i μ' (h : i < us.length), Fr μ0 μ' → ∃ s1, setT g us[i] (wipeU s own) = some s1 ∧ wpE (e s1 μ') (fun w μ'' => w = f us[i] ∧ Fr μ' μ'') (fun _ _ => False))
    (fin : ∀ μ', Fr μ0 μ' → μ'[μ0.length]? = some (.lst (us.map f)) → Q (.ref μ0.length) μ') : wpE (lcGo (.live r) own g tAll e s μ0.length fuelF 0 (μ0 ++ [.lst []])) Q E := by
  refine lc_live us (fun i μ' => Fr μ0 μ' ∧ μ'[μ0.length]? = some (.lst ((us.take i).map f))) hn ⟨Fr.refl.snoc, by simp⟩ (fun i μ' h => h.1.at_ _ _ hr) ?_ ?_
  · rintro i μ1 hi ⟨f1, c1⟩
    obtain ⟨s1, a1, a2⟩ := step i μ1 hi f1
    refine ⟨s1, a1, ?_⟩
    show wpE (e s1 μ1) _ _
    refine wpE.mono a2 ?_
    rintro w μ2 ⟨rfl, f2⟩
    refine ⟨_, f2.at_ _ _ c1, by simp [lim]; omega, (f1.trans f2).put (Nat.le_refl _), ?_⟩
    rw [get_set (f2.at_ _ _ c1), take_snoc hi, List.map_append]
    rfl
  · rintro μ1 ⟨f1, c1⟩
    rw [List.take_length] at c1
    exact fin μ1 f1 c1
theorem lc_mapR {m : Nat} (n : Nat) (f : Nat → U) (hm : m = n) (hn : n < 1000000)
    (step : ∀ i μ', i < n → Fr μ0 μ' → ∃ s1, setT g (.int (i : Int)) (wipeU s own) = some s1 ∧ wpE (e s1 μ') (fun w μ'' => w = f i ∧ Fr μ' μ'') (fun _ _ => False))
    (fin : ∀ μ', Fr μ0 μ' → μ'[μ0.length]? = some (.lst ((List.range n).map f)) → Q (.ref μ0.length) μ') : wpE (lcGo (.rng 0 1 m) own g tAll e s μ0.length fuelF 0 (μ0 ++ [.lst []])) Q E := by
  refine lc_rng n (fun i μ' => Fr μ0 μ' ∧ μ'[μ0.length]? = some (.lst ((List.range i).map f))) hm hn ⟨Fr.refl.snoc, by simp⟩ ?_ ?_
  · rintro i μ1 hi ⟨f1, c1⟩
    obtain ⟨s1, a1, a2⟩ := step i μ1 hi f1
    refine ⟨s1, a1, ?_⟩
    show wpE (e s1 μ1) _ _
    refine wpE.mono a2 ?_
    rintro w μ2 ⟨rfl, f2⟩
    refine ⟨_, f2.at_ _ _ c1, by simp [lim]; omega, (f1.trans f2).put (Nat.le_refl _), ?_⟩
    rw [get_set (f2.at_ _ _ c1), List.range_succ]
    simp
  · rintro μ1 ⟨f1, c1⟩
    exact fin μ1 f1 c1
theorem lc_sel {us : List U} (p : U → Bool) (f : U → U) (hn : us.length < 1000000)
    (step : ∀ i μ' (h : i < us.length), Fr μ0 μ' → ∃ s1, setT g us[i] (wipeU s own) = some s1 ∧ wpE (t s1 μ') (fun b μ2 => b = p us[i] ∧ Fr μ' μ2 ∧ (b = true → wpE (e s1 μ2) (fun w μ'' => w = f us[i] ∧ Fr μ2 μ'') (fun _ _ => False))) (fun _ _ => False))
    (fin : ∀ μ', Fr μ0 μ' → μ'[μ0.length]? = some (.lst ((us.filter p).map f)) → Q (.ref μ0.length) μ') : wpE (lcGo (.seq us) own g t e s μ0.length fuelF 0 (μ0 ++ [.lst []])) Q E := by
  refine lc_seq (fun i μ' => Fr μ0 μ' ∧ μ'[μ0.length]? = some (.lst (((us.take i).filter p).map f))) hn ⟨Fr.refl.snoc, by simp⟩ ?_ ?_
  · rintro i μ1 hi ⟨f1, c1⟩
    obtain ⟨s1, a1, a2⟩ := step i μ1 hi f1
    refine ⟨s1, a1, ?_⟩
    have hl : ((us.take i).filter p).length ≤ us.length := Nat.le_trans (List.length_filter_le _ _) (by simp; omega)
    refine wpE.mono a2 ?_
    rintro b μ2 ⟨rfl, f2, h2⟩
    cases hb : p us[i] with
    | false =>
      simp only [Bool.false_eq_true, if_false]
      refine ⟨f1.trans f2, ?_⟩
      rw [f2.at_ _ _ c1, take_snoc hi, List.filter_append, List.map_append]
      simp [hb]
    | true =>
      simp only [if_true]
      refine wpE.mono (h2 hb) ?_
      rintro w μ3 ⟨rfl, f3⟩
      have c3 := f3.at_ _ _ (f2.at_ _ _ c1)
      refine ⟨_, c3, by simp only [List.length_map, lim]; omega, ((f1.trans f2).trans f3).put (Nat.le_refl _), ?_⟩
      rw [get_set c3, take_snoc hi, List.filter_append, List.map_append]
      simp [hb]
  · rintro μ1 ⟨f1, c1⟩
    rw [List.take_length] at c1
    exact fin μ1 f1 c1
theorem lc_selL {r : Nat} {us : List U} (hr : μ0[r]? = some (.lst us)) (p : U → Bool) (f : U → U) (hn : us.length < 1000000)
    (step : ∀ i μ' (h : i < us.length), Fr μ0 μ' → ∃ s1, setT g us[i] (wipeU s own) = some s1 ∧ wpE (t s1 μ') (fun b μ2 => b = p us[i] ∧ Fr μ' μ2 ∧ (b = true → wpE (e s1 μ2) (fun w μ'' => w = f us[i] ∧ Fr μ2 μ'') (fun _ _ => False))) (fun _ _ => False))
    (fin : ∀ μ', Fr μ0 μ' → μ'[μ0.length]? = some (.lst ((us.filter p).map f)) → Q (.ref μ0.length) μ') : wpE (lcGo (.live r) own g t e s μ0.length fuelF 0 (μ0 ++ [.lst []])) Q E := by
  refine lc_live us (fun i μ' => Fr μ0 μ' ∧ μ'[μ0.length]? = some (.lst (((us.take i).filter p).map f))) hn ⟨Fr.refl.snoc, by simp⟩ (fun i μ' h => h.1.at_ _ _ hr) ?_ ?_
  · rintro i μ1 hi ⟨f1, c1⟩
    obtain ⟨s1, a1, a2⟩ := step i μ1 hi f1
    refine ⟨s1, a1, ?_⟩
    have hl : ((us.take i).filter p).length ≤ us.length := Nat.le_trans (List.length_filter_le _ _) (by simp; omega)
    refine wpE.mono a2 ?_
    rintro b μ2 ⟨rfl, f2, h2⟩
    cases hb : p us[i] with
    | false =>
      simp only [Bool.false_eq_true, if_false]
      refine ⟨f1.trans f2, ?_⟩
      rw [f2.at_ _ _ c1, take_snoc hi, List.filter_append, List.map_append]
      simp [hb]
    | true =>
      simp only [if_true]
      refine wpE.mono (h2 hb) ?_
      rintro w μ3 ⟨rfl, f3⟩
      have c3 := f3.at_ _ _ (f2.at_ _ _ c1)
      refine ⟨_, c3, by simp only [List.length_map, lim]; omega, ((f1.trans f2).trans f3).put (Nat.le_refl _), ?_⟩
      rw [get_set c3, take_snoc hi, List.filter_append, List.map_append]
      simp [hb]
  · rintro μ1 ⟨f1, c1⟩
    rw [List.take_length] at c1
    exact fin μ1 f1 c1
end
theorem blsU_map {α : Type} (f : α → Bool) : ∀ us : List α, blsU (us.map fun u => U.bl (f u)) = some (us.map f)
  | [] => rfl
  | u :: us => by simp [blsU, blsU_map f us]
theorem w_allL {μ : Mem} {Q : U → Mem → Prop} {E : Str → Mem → Prop} {r : Nat} {us : List U} {bs : List Bool} (h : μ[r]? = some (.lst us)) (e : blsU us = some bs) : wpE (bAll [.ref r] μ) Q E = Q (.bl (bs.all id)) μ := by
  have : bAll [.ref r] μ = .ok (.bl (bs.all id)) μ := by unfold bAll; simp only [lstU_L h, Option.bind_some, e]
  rw [this]; rfl
theorem w_anyL {μ : Mem} {Q : U → Mem → Prop} {E : Str → Mem → Prop} {r : Nat} {us : List U} {bs : List Bool} (h : μ[r]? = some (.lst us)) (e : blsU us = some bs) : wpE (bAny [.ref r] μ) Q E = Q (.bl (bs.any id)) μ := by
  have : bAny [.ref r] μ = .ok (.bl (bs.any id)) μ := by unfold bAny; simp only [lstU_L h, Option.bind_some, e]
  rw [this]; rfl
theorem intsU_map {α : Type} (f : α → Int) : ∀ us : List α, intsU (us.map fun u => U.int (f u)) = some (us.map f)
  | [] => rfl
  | u :: us => by simp [intsU, intsU_map f us]
theorem w_sumL {μ : Mem} {Q : U → Mem → Prop} {E : Str → Mem → Prop} {r : Nat} {us : List U} {bs : List Int} (h : μ[r]? = some (.lst us)) (e : intsU us = some bs) : wpE (bSum [.ref r] μ) Q E = Q (.int bs.sum) μ := by
  have : bSum [.ref r] μ = .ok (.int bs.sum) μ := by unfold bSum; simp only [lstU_L h, Option.bind_some, e]
  rw [this]; rfl
theorem w_listL {μ : Mem} {Q : U → Mem → Prop} {E : Str → Mem → Prop} {r : Nat} {us : List U} (h : μ[r]? = some (.lst us)) : wpE (bList [.ref r] μ) Q E = Q (.ref μ.length) (μ ++ [.lst us]) := by
  have : bList [.ref r] μ = .ok (.ref μ.length) (μ ++ [.lst us]) := by unfold bList seqU; simp only [h]
  rw [this]; rfl
theorem w_listT {μ : Mem} {Q : U → Mem → Prop} {E : Str → Mem → Prop} {us : List U} : wpE (bList [.tup us] μ) Q E = Q (.ref μ.length) (μ ++ [.lst us]) := propext ⟨fun h => h, fun h => h⟩
theorem w_addT {μ : Mem} {Q : U → Mem → Prop} {E : Str → Mem → Prop} {us ws : List U} (h : us.length + ws.length ≤ lim) : wpE (uAdd (.tup us) (.tup ws) μ) Q E = Q (.tup (us ++ ws)) μ := by
  cases us with
  | nil => rfl
  | cons u us =>
    have : uAdd (.tup (u :: us)) (.tup ws) μ = .ok (.tup (u :: us ++ ws)) μ := by unfold uAdd; simp only [h, if_true]
    rw [this]; rfl
theorem w_mulT {μ : Mem} {Q : U → Mem → Prop} {E : Str → Mem → Prop} {us : List U} {n : Int} (h : -1000 ≤ n ∧ n ≤ 1000 ∧ us.length ≤ 1000) : wpE (uMul (.tup us) (.int n) μ) Q E = Q (.tup (repU n.toNat us)) μ := by
  have : uMul (.tup us) (.int n) μ = .ok (.tup (repU n.toNat us)) μ := by unfold uMul; simp only [h, and_self, if_true]
  rw [this]; rfl
theorem w_addL' {μ : Mem} {a b : Nat} {xs ys : List U} {Q : U → Mem → Prop} {E : Str → Mem → Prop} (h1 : μ[a]? = some (.lst xs)) (h2 : μ[b]? = some (.lst ys)) (hl : xs.length + ys.length ≤ lim) : wpE (uAdd (.ref a) (.ref b) μ) Q E = Q (.ref μ.length) (μ ++ [.lst (xs ++ ys)]) := by
  have : uAdd (.ref a) (.ref b) μ = .ok (.ref μ.length) (μ ++ [.lst (xs ++ ys)]) := by unfold uAdd; simp only [h1, h2, hl, if_true]
  rw [this]; rfl
theorem tru_T {μ : Mem} {us : List U} : truU μ (.tup us) = some (!us.isEmpty) := rfl
theorem tru_I {μ : Mem} {i : Int} : truU μ (.int i) = some (i != 0) := rfl
/-! dicts -/
section
variable {s : Slots} {μ : Mem} {Q : U → Mem → Prop} {E : Str → Mem → Prop} {D : Dn}
theorem w_getE {d a b : FE} : wpE (fGet d a b s μ) Q E = wpE (d s μ) (fun x μ1 => (∃ kus0, rdU μ1 x = some kus0) ∧ wpE (a s μ1) (fun y μ2 => wpE (b s μ2) (fun z μ3 => ∃ kus k, rdU μ3 x = some kus ∧ keyU y = some k ∧ Q ((valU kus k).getD z) μ3) E) E) E := by
  unfold fGet; rw [w_bind]; congr 1; funext x μ1
  cases rdU μ1 x with
  | none => simp [wpE]
  | some k0 =>
    simp only [w_bind, Option.some.injEq, exists_eq', true_and]
    congr 1; funext y μ2; congr 1; funext z μ3
    cases h1 : rdU μ3 x with
    | none => simp [wpE]
    | some kus =>
      cases h2 : keyU y with
      | none => simp [wpE]
      | some k => simp [wpE]
theorem rd_D {r : Nat} {kus : List (Key × U)} (h : μ[r]? = some (.dct kus)) : rdU μ (.ref r) = some kus := by unfold rdU; simp only [h]
theorem rd_F {r : Nat} {kus : List (Key × U)} (h : μ[r]? = some (.fdc kus)) : rdU μ (.ref r) = some kus := by unfold rdU; simp only [h]
theorem stU_DI {r : Nat} {kvs : List (Key × U)} {x : Int} {u : U} (h : μ[r]? = some (.dct kvs)) (hl : kvs.length < lim) : stU (.ref r) (.int x) u μ = some (μ.set r (.dct (putU kvs (.inl x) u))) := by
  unfold stU; simp only [h, keyU, hl, if_true]
theorem w_ixDI {r : Nat} {kvs : List (Key × U)} {x : Int} (h : μ[r]? = some (.dct kvs)) : wpE (ixU (.ref r) (.int x) μ) Q E = ∃ a, valU kvs (.inl x) = some a ∧ Q a μ := by
  have : ixU (.ref r) (.int x) μ = opt (valU kvs (.inl x)) μ := by
    unfold ixU dctU
    simp only [h, keyU]
  rw [this, w_res]
def lkD (r : Nat) (D : Dn) : Dn := ⟨fun s μ => ∃ kus, μ[r]? = some (.fdc kus) ∧ D.nx s (μ.set r (.dct kus)), fun u μ => ∃ kus, μ[r]? = some (.fdc kus) ∧ D.rt u (μ.set r (.dct kus)),
  fun s μ => ∃ kus, μ[r]? = some (.fdc kus) ∧ D.bk s (μ.set r (.dct kus)), fun s μ => ∃ kus, μ[r]? = some (.fdc kus) ∧ D.ct s (μ.set r (.dct kus)), D.ex⟩
theorem ulM_F {r : Nat} {kus : List (Key × U)} (h : μ[r]? = some (.fdc kus)) : ulM r μ = some (μ.set r (.dct kus)) := by unfold ulM; simp only [h, ulC]
theorem s_lockD {e : FE} {b : FS} {r : Nat} {μ' : Mem} {kus : List (Key × U)} (he : e s μ = .ok (.ref r) μ') (h : μ[r]? = some (.dct kus)) (w : Dg.wpS (b s (μ.set r (.fdc kus))) (lkD r D)) : Dg.wpS (sLock e b s μ) D := by
  unfold sLock
  rw [he]
  simp only [h, lkC]
  cases eb : b s (μ.set r (.fdc kus)) with
  | nx s1 m1 => rw [eb] at w; obtain ⟨k, c, q⟩ := w; simp only [ulO, ulM_F c]; exact q
  | rt s1 m1 => rw [eb] at w; obtain ⟨k, c, q⟩ := w; simp only [ulO, ulM_F c]; exact q
  | bk s1 m1 => rw [eb] at w; obtain ⟨k, c, q⟩ := w; simp only [ulO, ulM_F c]; exact q
  | ct s1 m1 => rw [eb] at w; obtain ⟨k, c, q⟩ := w; simp only [ulO, ulM_F c]; exact q
  | ex c s1 m1 => rw [eb] at w; exact w
  | bad => rw [eb] at w; exact w
theorem w_lockD {e : FE} {b : FE} {r : Nat} {μ' : Mem} {kus : List (Key × U)} (he : e s μ = .ok (.ref r) μ') (h : μ[r]? = some (.dct kus)) (w : wpE (b s (μ.set r (.fdc kus))) (fun u μ => ∃ kus, μ[r]? = some (.fdc kus) ∧ Q u (μ.set r (.dct kus))) E) : wpE (fLock e b s μ) Q E := by
  unfold fLock
  rw [he]
  simp only [h, lkC]
  cases eb : b s (μ.set r (.fdc kus)) with
  | ok s1 m1 => rw [eb] at w; obtain ⟨k, c, q⟩ := w; simp only [ulR, ulM_F c]; exact q
  | ex c m1 => rw [eb] at w; exact w
  | bad => rw [eb] at w; exact w
theorem w_items {a : FE} {Q : IterU → Mem → Prop} : wpE (Dg.iItems a s μ) Q E = wpE (a s μ) (fun u μ1 => ∃ kus, fdcU μ1 u = some kus ∧ ksOk kus = true ∧ Q (.seq (itemsU kus)) μ1) E := by
  unfold Dg.iItems; rw [w_bind]; congr 1; funext u μ1
  cases fdcU μ1 u with
  | none => simp [wpE]
  | some kus =>
    simp only [Option.some.injEq, exists_eq_left']
    split
    · rename_i h; simp [h, wpE]
    · rename_i h; simp [h, wpE]
theorem w_keys {a : FE} {Q : IterU → Mem → Prop} : wpE (Dg.iKeys a s μ) Q E = wpE (a s μ) (fun u μ1 => ∃ kus, fdcU μ1 u = some kus ∧ ksOk kus = true ∧ Q (.seq (keysU kus)) μ1) E := by
  unfold Dg.iKeys; rw [w_bind]; congr 1; funext u μ1
  cases fdcU μ1 u with
  | none => simp [wpE]
  | some kus =>
    simp only [Option.some.injEq, exists_eq_left']
    split
    · rename_i h; simp [h, wpE]
    · rename_i h; simp [h, wpE]
theorem fdc_F {r : Nat} {kus : List (Key × U)} (h : μ[r]? = some (.fdc kus)) : fdcU μ (.ref r) = some kus := by unfold fdcU; simp only [h]
end
theorem Fr.unlock {μ μ' : Mem} {r : Nat} {kus : List (Key × U)} (h : μ[r]? = some (.dct kus)) (f : Fr (μ.set r (.fdc kus)) μ') : Fr μ (μ'.set r (.dct kus)) := by
  have hl := get_lt h
  have hr : μ'[r]? = some (.fdc kus) := f.at_ _ _ (get_set h)
  refine ⟨by have := f.le; simp at this ⊢; omega, fun i c hi => ?_⟩
  by_cases e : i = r
  · subst e
    rw [h] at hi
    cases hi
    exact get_set hr
  · exact get_set_ne (f.at_ _ _ (get_set_ne hi (Ne.symm e))) (Ne.symm e)
theorem atI_toNat {α : Type} {xs : List α} {i : Int} (h0 : 0 ≤ i) (h : i.toNat < xs.length) : atI xs i = some xs[i.toNat] := by
  obtain ⟨n, rfl⟩ := Int.eq_ofNat_of_zero_le h0
  rw [Dg.atI_nat]
  simp only [Int.toNat_natCast] at h ⊢
  exact List.getElem?_eq_getElem h
theorem w_index {μ : Mem} {Q : U → Mem → Prop} {E : Str → Mem → Prop} {u w : U} {us : List U} {vs : List V} {y : V} {j : Nat} (h : lstU μ u = some us) (e1 : flUs us = some vs) (e2 : flU w = some y) (e3 : idxV y vs = some j) : wpE (gIndex u [w] μ) Q E = Q (.int (j : Nat)) μ := by
  have : gIndex u [w] μ = .ok (.int (j : Nat)) μ := by unfold gIndex; simp only [h, e1, e2, e3]
  rw [this]; rfl
theorem cutU_take {α : Type} {us : List α} {n : Int} (h : 0 ≤ n) : cutU us none (some n) = us.take n.toNat := by
  unfold cutU
  obtain ⟨m, rfl⟩ := Int.eq_ofNat_of_zero_le h
  show (us.drop 0).take (HT.sIx us.length us.length (some (m : Int)) - 0) = _
  rw [HT.sIx_nat]
  simp only [List.drop_zero, Nat.sub_zero, Int.toNat_natCast]
  rcases Nat.le_total m us.length with h | h
  · rw [Nat.min_eq_left h]
  · rw [Nat.min_eq_right h, List.take_of_length_le (Nat.le_refl _), List.take_of_length_le h]
theorem cutU_drop {α : Type} {us : List α} {n : Int} (h : 0 ≤ n) : cutU us (some n) none = us.drop n.toNat := by
  unfold cutU
  obtain ⟨m, rfl⟩ := Int.eq_ofNat_of_zero_le h
  rw [HT.sIx_nat]
  show (us.drop (min m us.length)).take (us.length - min m us.length) = _
  simp only [Int.toNat_natCast]
  rcases Nat.le_total m us.length with h | h
  · rw [Nat.min_eq_left h, List.take_of_length_le (by simp)]
  · rw [Nat.min_eq_right h, List.drop_of_length_le (Nat.le_refl _), List.drop_of_length_le h]; simp
theorem w_geXI {i j : Int} {μ : Mem} {Q : U → Mem → Prop} {E : Str → Mem → Prop} : wpE (uGeX (.int i) (.int j) μ) Q E = Q (.bl (decide (j ≤ i))) μ := propext ⟨fun h => h, fun h => h⟩
theorem w_geXP {a b c d : Int} {μ : Mem} {Q : U → Mem → Prop} {E : Str → Mem → Prop} : wpE (uGeX (.tup [.int a, .int b]) (.tup [.int c, .int d]) μ) Q E = Q (.bl (!ltPr (a, b) (c, d))) μ := propext ⟨fun h => h, fun h => h⟩
theorem w_lz {ma : FA} {s : Slots} {μ : Mem} {Q : U → Mem → Prop} {E : Str → Mem → Prop} : wpE (fLz ma s μ) Q E = wpE (ma s μ) (fun us μ1 => ∃ xs ys, us = [.tup xs, .tup ys] ∧ Q (.ref μ1.length) (μ1 ++ [.lst (List.zipWith (fun x y => .tup [x, y]) xs ys)])) E := by
  unfold fLz; rw [w_bind]; congr 1; funext us μ1
  apply propext
  constructor
  · intro h
    split at h
    · rename_i xs ys; exact ⟨xs, ys, rfl, h⟩
    · exact h.elim
  · rintro ⟨xs, ys, rfl, q⟩; exact q
local macro_rules | `(tactic| walk_at "go") => `(tactic| simp (config := {decide := true}) only [w_run, w_geXI, w_geXP, w_lz, w_op, w_isi, Dg.wipeU, w_powI, w_intB, w_sl, w_oNone, w_oSome, w_slT, w_slF, w_ixF, w_lenF, w_abs, w_max2, w_min2, w_fdivI, w_neg, w_andE, w_orE, w_notE, w_chain, w_c, w_var, w_call, w_def, w_anil, w_acons, w_tup, w_lst, w_int, w_intB, w_lenT, w_addI, w_subI, w_modI, w_mulI, w_ltI, w_leI, w_gtI, w_geI, w_eq, w_ne, w_ixT, w_if, w_nt, w_an, w_or, w_all, w_tstB, w_tst, w_app, w_lc, w_for, w_iseqT, w_rg1, w_rev1, w_d0, Dg.eq_str, Dg.eq_int, s_seq, s_next, s_brk, s_cnt, s_expr, s_ret, s_retN, s_if, w_getE, w_items, w_keys, w_fmt, w_js0, w_js, s_asg1, s_store, s_tryAs, s_try, w_isX, s_raise, List.map_cons, List.map_nil, List.cons_append, List.nil_append, List.length_cons, List.length_nil, List.replicate_succ, List.replicate_zero, Nat.add_sub_cancel, Nat.sub_self, Nat.sub_zero, Nat.reduceAdd, Nat.reduceSub, Nat.zero_add, List.set_cons_succ, List.set_cons_zero, List.getElem?_cons_zero, List.getElem?_cons_succ, Option.some.injEq, exists_eq_left', exists_eq_left, exists_eq_right', U.bl.injEq, U.int.injEq, U.ref.injEq, U.str.injEq, atI_0, atI_1, atI_2, atI_3, atI_4, atI_5, if_true, if_false, true_and, and_true, decide_true, decide_false, Bool.not_true, Bool.not_false, reduceCtorEq, ite_true, ite_false, decide_eq_true_eq, Bool.true_eq_false, Bool.false_eq_true])
/-! instances, enumerate, list(range(n)) -/
section
variable {s : Slots} {μ : Mem} {D : Dn} {E : Str → Mem → Prop}
theorem isO_is {r : Nat} {c : Str} {fs : List (Str × U)} (h : μ[r]? = some (.obj c fs)) : isO c μ (.ref r) = some fs := by
  unfold isO
  simp only [h, if_true]
theorem w_fld {c f : Str} {a : FE} {Q : U → Mem → Prop} : wpE (fFld c f a s μ) Q E = wpE (a s μ) (fun u μ1 => ∃ fs, isO c μ1 u = some fs ∧ ∃ v, fs.lookup f = some v ∧ Q v μ1) E := by
  unfold fFld; rw [w_bind]; congr 1; funext u μ1
  unfold gFld
  cases isO c μ1 u with
  | none => simp [wpE]
  | some fs =>
    simp only [Option.some.injEq, exists_eq_left']
    cases h : fs.lookup f with
    | none => simp [wpE]
    | some v => simp [wpE]
theorem s_fld {c f : Str} {o a : FE} : Dg.wpS (sFldS c f o a s μ) D = wpE (a s μ) (fun v μ1 => wpE (o s μ1) (fun u μ2 => ∃ μ3, stO c f v u μ2 = some μ3 ∧ D.nx s μ3) (fun c μ => D.ex c s μ)) (fun c μ => D.ex c s μ) := by
  unfold sFldS; rw [w_ofR]; congr 1; funext v μ1; rw [w_ofR]; congr 1; funext u μ2
  cases stO c f v u μ2 <;> simp [Dg.wpS]
theorem stO_is {r : Nat} {c f : Str} {fs : List (Str × U)} {v : U} (h : μ[r]? = some (.obj c fs)) (hl : fs.length < 1000) : stO c f v (.ref r) μ = some (μ.set r (.obj c (putFU f v fs))) := by
  unfold stO
  simp only [isO_is h, if_pos hl]
theorem w_noEx {r : Res U} {Q : U → Mem → Prop} : wpE (noEx r) Q E = wpE r Q (fun _ _ => False) := by
  cases r <;> simp [noEx, wpE]
theorem w_meth {c m : Str} {n : Nat} {g : List U → Mem → Res U} {o : FE} {a : FA} {Q : U → Mem → Prop} : wpE (fMeth c m n g o a s μ) Q E = wpE (o s μ) (fun u μ1 => ∃ fs, isO c μ1 u = some fs ∧ fs.lookup m = none ∧ wpE (a s μ1) (fun us μ2 => us.length + 1 = n ∧ wpE (g (u :: us) μ2) Q (fun _ _ => False)) E) E := by
  unfold fMeth; rw [w_bind]; congr 1; funext u μ1
  cases isO c μ1 u with
  | none => simp [wpE]
  | some fs =>
    simp only [Option.some.injEq, exists_eq_left']
    cases h : fs.lookup m with
    | some v => simp [wpE]
    | none =>
      simp only [Option.isNone_none, if_true, true_and]
      rw [w_bind]; congr 1; funext us μ2
      split
      · rename_i h; rw [w_noEx]; simp [h]
      · rename_i h; simp [h, wpE]
theorem w_make {c : Str} {n : Nat} {g : List U → Mem → Res U} {a : FA} {Q : U → Mem → Prop} : wpE (fMake c n g a s μ) Q E = wpE (a s μ) (fun us μ1 => us.length + 1 = n ∧ wpE (g (.ref μ1.length :: us) (μ1 ++ [.obj c []])) (fun w μ2 => w = .non ∧ Q (.ref μ1.length) μ2) (fun _ _ => False)) E := by
  unfold fMake; rw [w_bind]; congr 1; funext us μ1
  split
  · rename_i h
    simp only [h, true_and]
    cases g (.ref μ1.length :: us) (μ1 ++ [.obj c []]) with
    | ok w μ2 => cases w <;> simp [wpE]
    | ex c m => simp [wpE]
    | bad => simp [wpE]
  · rename_i h; simp [h, wpE]
theorem w_lrg {a : FE} {Q : U → Mem → Prop} : wpE (fLrg a s μ) Q E = wpE (a s μ) (fun u μ1 => ∃ n : Int, u = .int n ∧ (0 ≤ n ∧ n ≤ 16777216) ∧ Q (.ref μ1.length) (μ1 ++ [.lst ((List.range n.toNat).map fun i => U.int (i : Nat))])) E := by
  unfold fLrg; rw [w_bind]; congr 1; funext u μ1
  cases u with
  | int n =>
    simp only [U.int.injEq, exists_eq_left']
    split
    · rename_i h; simp only [of_decide_eq_true h, true_and]; rfl
    · rename_i h
      have h' : ¬ (0 ≤ n ∧ n ≤ 16777216) := fun e => h (decide_eq_true e)
      simp only [h', false_and]; rfl
  | _ => simp [wpE]
theorem w_enum {a : FE} {Q : IterU → Mem → Prop} : wpE (iEnumU a s μ) Q E = wpE (a s μ) (fun u μ1 => ∃ r, u = .ref r ∧ ∃ us, listAt μ1 r = some us ∧ Q (.enum r) μ1) E := by
  unfold iEnumU; rw [w_bind]; congr 1; funext u μ1
  cases u with
  | ref r =>
    simp only [U.ref.injEq, exists_eq_left']
    cases listAt μ1 r <;> simp [wpE]
  | _ => simp [wpE]
theorem item_enum {r i : Nat} {us : List U} (h : μ[r]? = some (.lst us)) : Dg.itemAt (.enum r) i μ = some (us[i]?.map fun u => .tup [.int (i : Nat), u]) := by
  simp only [Dg.itemAt, listAt_L h, Option.map_some]
theorem for_enum {r : Nat} {g : Tgt} {b : FS} (us : List U) (I : Nat → Slots → Mem → Prop) (hn : us.length < 1000000) (h0 : I 0 s μ) (hc : ∀ i s μ, I i s μ → μ[r]? = some (.lst us))
    (step : ∀ i s μ (h : i < us.length), I i s μ → ∃ s1, setT g (.tup [.int (i : Nat), us[i]]) s = some s1 ∧ Dg.wpS (b s1 μ) ⟨I (i + 1), D.rt, D.nx, I (i + 1), D.ex⟩) (fin : ∀ s μ, I us.length s μ → D.nx s μ) : Dg.wpS (sForGo g b fuelF (.enum r) 0 s μ) D := by
  refine for_go (fun i s μ => i ≤ us.length ∧ I i s μ) us.length hn ⟨by omega, h0⟩ (fun i s μ h => h.1) ?_
  rintro i s μ ⟨hi, h⟩
  rw [item_enum (hc i s μ h)]
  by_cases e : i < us.length
  · right
    obtain ⟨s1, e1, h1⟩ := step i s μ e h
    refine ⟨_, s1, by rw [List.getElem?_eq_getElem e]; rfl, e1, ?_⟩
    have : Dg.wpS (b s1 μ) ⟨fun s μ => i + 1 ≤ us.length ∧ I (i + 1) s μ, D.rt, D.nx, fun s μ => i + 1 ≤ us.length ∧ I (i + 1) s μ, D.ex⟩ := by
      cases hb : b s1 μ <;> rw [hb] at h1 <;> first | exact ⟨e, h1⟩ | exact h1
    exact this
  · left
    have : i = us.length := by omega
    subst this
    exact ⟨by rw [List.getElem?_eq_none (Nat.le_refl _)]; rfl, fin s μ h⟩
end
open TL (tl ext_tl tl_append joinL)
/-! texts -/
theorem sok {x : Str} (h : ∀ c ∈ tl x, c < 1114112) : PyData.strOk x = true := by
  unfold PyData.strOk
  rw [Array.all_eq_true']
  intro c hc
  exact decide_eq_true (h c (Array.mem_toList_iff.mpr hc))
theorem sok_iff {x : Str} : PyData.strOk x = true ↔ ∀ c ∈ tl x, c < 1114112 := by
  refine ⟨fun h c hc => ?_, sok⟩
  unfold PyData.strOk at h
  rw [Array.all_eq_true'] at h
  exact of_decide_eq_true (h c (Array.mem_toList_iff.mp hc))
def mkS (l : List Nat) : Str := ⟨l.toArray⟩
theorem tl_mkS (l : List Nat) : tl (mkS l) = l := rfl
theorem mkS_inj {a b : List Nat} (h : mkS a = mkS b) : a = b := by
  have := congrArg tl h
  simpa [tl_mkS] using this
theorem mkS_tl (x : Str) : mkS (tl x) = x := ext_tl rfl
theorem len_mkS (l : List Nat) : (mkS l).length = l.length := by rw [TL.len_tl]; rfl
theorem tl_dig {n : Nat} (h : n < 10) : tl (toString (n : Int) : Str) = [48 + n] := by
  have := TL.tl_num n
  rw [TL.numL_lt h] at this
  exact this
section
variable {s : Slots} {μ : Mem} {Q : U → Mem → Prop} {E : Str → Mem → Prop}
theorem w_mtS {g : U → List U → Mem → Res U} {o : FE} {a : FA} : wpE (fMtS g o a s μ) Q E = wpE (o s μ) (fun u μ1 => ∃ z, u = .str z ∧ wpE (a s μ1) (fun us μ2 => wpE (g (.str z) us μ2) Q E) E) E := by
  unfold fMtS; rw [w_bind]; congr 1; funext u μ1
  cases u with
  | str z => simp only [U.str.injEq, exists_eq_left']; rw [w_bind]
  | _ => simp [wpE]
theorem w_addS {a b : Str} (h : a.length + b.length ≤ lim) : wpE (uAdd (.str a) (.str b) μ) Q E = Q (.str (a ++ b)) μ := by
  have : uAdd (.str a) (.str b) μ = .ok (.str (a ++ b)) μ := by unfold uAdd; simp only [h, if_true]
  rw [this]; rfl
theorem w_strN {n : Nat} (h : n < 10) : wpE (bStr [.int (n : Int)] μ) Q E = Q (.str (mkS [48 + n])) μ := by
  have e : (toString (n : Int) : Str) = mkS [48 + n] := ext_tl (by rw [tl_dig h, tl_mkS])
  have : bStr [.int (n : Int)] μ = .ok (.str (mkS [48 + n])) μ := by
    unfold bStr
    have h1 : (n : Int).natAbs.log2 < 1920 := by
      have := Nat.log2_le_self (n : Int).natAbs
      omega
    have h2 : PyData.strOk (toString (n : Int) : Str) = true := by
      rw [e]; exact sok fun c hc => by rw [tl_mkS] at hc; rw [List.mem_singleton.mp hc]; omega
    simp only [h1, h2, and_self, if_true]
    rw [e]
  rw [this]; rfl
theorem w_astar {a : FE} {b : FA} {Q : List U → Mem → Prop} : wpE (aStar a b s μ) Q E = wpE (a s μ) (fun u μ1 => ∃ us, seqU μ1 u = some us ∧ wpE (b s μ1) (fun ws μ2 => Q (us ++ ws) μ2) E) E := by
  unfold aStar; rw [w_bind]; congr 1; funext u μ1
  cases seqU μ1 u with
  | none => simp [wpE]
  | some us => simp only [Option.some.injEq, exists_eq_left']; rw [w_bind]; rfl
theorem seq_L {r : Nat} {us : List U} (h : μ[r]? = some (.lst us)) : seqU μ (.ref r) = some us := by unfold seqU; simp only [h]
theorem w_fmtR {a : FE} : wpE (fFmtR a s μ) Q E = wpE (a s μ) (fun u μ1 => ∃ y, u = .str y ∧ ((reprText y).length ≤ lim ∧ PyData.strOk (reprText y) = true) ∧ Q (.str (reprText y)) μ1) E := by
  unfold fFmtR; rw [w_bind]; congr 1; funext u μ1
  cases u with
  | str y =>
    simp only [U.str.injEq, exists_eq_left']
    split
    · rename_i h; simp only [h, true_and, and_self]; rfl
    · rename_i h; simp only [h, false_and]; rfl
  | _ => simp [wpE]
theorem w_enumT {a : FE} {us : List U} {Q : IterU → Mem → Prop} (h : a s μ = .ok (.tup us) μ) : wpE (iEnumA a s μ) Q E = Q (.seq (enumL us)) μ := by
  unfold iEnumA; rw [h]; rfl
theorem w_extL {r r2 : Nat} {us ws : List U} (h : μ[r]? = some (.lst us)) (h2 : μ[r2]? = some (.lst ws)) (hl : us.length + ws.length ≤ lim) : wpE (gExt (.ref r) [.ref r2] μ) Q E = Q .non (μ.set r (.lst (us ++ ws))) := by
  have : gExt (.ref r) [.ref r2] μ = .ok .non (μ.set r (.lst (us ++ ws))) := by unfold gExt; simp [lstU_L h, seqU, h2, hl, h]
  rw [this]; rfl
theorem w_splitS {z b : Str} {parts : List Str} (e : Txt.split z b = parts) (hb : b.length ≠ 0) (hz : z.length + 2 ≤ lim) (ok : ∀ p ∈ parts, PyData.strOk p = true) : wpE (gSplit (.str z) [.str b] μ) Q E = Q (.ref μ.length) (μ ++ [.lst (parts.map U.str)]) := by
  have : gSplit (.str z) [.str b] μ = .ok (.ref μ.length) (μ ++ [.lst (parts.map U.str)]) := by
    unfold gSplit
    simp only [e]
    rw [if_pos ⟨hb, hz, List.all_eq_true.mpr ok⟩]
  rw [this]; rfl
theorem strsU_map : ∀ xs : List Str, strsU (xs.map U.str) = some xs
  | [] => rfl
  | x :: xs => by simp [strsU, strsU_map xs]
theorem w_joinL {b : Str} {r : Nat} {ys : List Str} (h : μ[r]? = some (.lst (ys.map U.str))) (hl : (ys.map (·.length)).sum + ys.length * b.length ≤ 16777216) (ok : PyData.strOk (Txt.join b ys) = true) : wpE (gJoin (.str b) [.ref r] μ) Q E = Q (.str (Txt.join b ys)) μ := by
  have : gJoin (.str b) [.ref r] μ = .ok (.str (Txt.join b ys)) μ := by
    unfold gJoin
    simp only [seq_L h, Option.bind_some, strsU_map]
    rw [if_pos ⟨hl, ok⟩]
  rw [this]; rfl
end
open TL (tl ext_tl tl_append joinL)
/-! declarations and letters -/
inductive Ty | c | e | v
  deriving DecidableEq
def tyS : Ty → Str
  | .c => "com"
  | .e => "exp"
  | .v => "val"
def kS (b : Bool) : Str := if b then "exp" else "com"
structure Dc where
  nm : Str
  ty : List Ty
  ex : Bool
def dcU (d : Dc) : U := .tup [.str d.nm, .tup (d.ty.map fun t => .str (tyS t)), .str (kS d.ex)]
def dsU (ds : List Dc) : U := .tup (ds.map dcU)
inductive Mv | flt | mk (n : Str) (a : Nat) (s : Bool) (v : Nat)
def mvU : Mv → U
  | .flt => .tup [.str "!"]
  | .mk n a s v => .tup [.str n, .int (a : Nat), .bl s, .int (v : Nat)]
def wd (e : Bool) : Nat := if e then 3 else 1
def ansL (n : Str) (a : Nat) (e : Bool) : List Mv := (List.range (wd e)).map (Mv.mk n a true)
def nv (ts : List Ty) : Nat := (ts.filter fun t => decide (t = .v)).length
def qsL (d : Dc) : List Mv := (List.range (3 ^ nv d.ty)).map (Mv.mk d.nm 0 false)
def ag1 (n : Str) (p : Ty × Nat) : List Mv := match p.1 with
  | .v => []
  | .c => .mk n (p.2 + 1) false 0 :: ansL n (p.2 + 1) false
  | .e => .mk n (p.2 + 1) false 0 :: ansL n (p.2 + 1) true
def argL (d : Dc) : List Mv := d.ty.zipIdx.flatMap (ag1 d.nm)
def perD (d : Dc) : List Mv := qsL d ++ ansL d.nm 0 d.ex ++ argL d
def letL (ds : List Dc) (k : Bool) : List Mv := .mk "" 0 false 0 :: (ansL "" 0 k ++ [.flt]) ++ ds.flatMap perD
def NMS : List Str := ["a", "f", "fa", "zzzz", "b", "hole"]
structure DOk (ds : List Dc) : Prop where
  nm : ∀ d ∈ ds, d.nm ∈ NMS
  nd : (ds.map (·.nm)).Nodup
  ty : ∀ d ∈ ds, d.ty.length ≤ 2
  len : ds.length ≤ 3
def tyOf (ds : List Dc) (n : Str) : List Ty := match ds.find? (fun d => decide (d.nm = n)) with
  | some d => d.ty
  | none => []
def hasV (ds : List Dc) (n : Str) : Bool := (tyOf ds n).any fun t => decide (t = .v)
def txL (ds : List Dc) : Mv → List Nat
  | .flt => [33, 33]
  | .mk n a s v => tl n ++ ((if a = 0 then [] else [46, 48 + a]) ++ (if s then [33, 48 + v] else if a = 0 ∧ hasV ds n = true then [63, 48 + v] else [63]))
def txt (ds : List Dc) (m : Mv) : Str := mkS (txL ds m)
theorem nms_of {P : List Nat → Prop} (h : P [97] ∧ P [102] ∧ P [102, 97] ∧ P [122, 122, 122, 122] ∧ P [98] ∧ P [104, 111, 108, 101]) {n : Str} (hn : n ∈ NMS) : P (tl n) := by
  obtain ⟨h1, h2, h3, h4, h5, h6⟩ := h
  simp only [NMS, List.mem_cons, List.not_mem_nil, or_false] at hn
  rcases hn with rfl | rfl | rfl | rfl | rfl | rfl
  · exact h1
  · exact h2
  · exact h3
  · exact h4
  · exact h5
  · exact h6
theorem find_nd : ∀ {ds : List Dc} {d : Dc}, (ds.map (·.nm)).Nodup → d ∈ ds → ds.find? (fun e => decide (e.nm = d.nm)) = some d
  | e :: ds, d, nd, h => by
    rw [List.map_cons, List.nodup_cons] at nd
    rcases List.mem_cons.mp h with rfl | h
    · simp
    · have ne : ¬ e.nm = d.nm := fun q => nd.1 (q ▸ List.mem_map_of_mem h)
      rw [List.find?_cons_of_neg (by simpa using ne)]
      exact find_nd nd.2 h
theorem tyOf_nd {ds : List Dc} {d : Dc} (o : DOk ds) (h : d ∈ ds) : tyOf ds d.nm = d.ty := by
  unfold tyOf; rw [find_nd o.nd h]
theorem tyOf_em {ds : List Dc} (o : DOk ds) : tyOf ds "" = [] := by
  unfold tyOf
  rw [List.find?_eq_none.mpr]
  intro d hd e
  have e' : d.nm = "" := of_decide_eq_true e
  have := o.nm d hd
  rw [e'] at this
  exact absurd this (by decide)
theorem nv_le : ∀ ts : List Ty, nv ts ≤ ts.length := fun ts => List.length_filter_le _ _
theorem nv_any (ts : List Ty) : (ts.any fun t => decide (t = .v)) = decide (nv ts ≠ 0) := by
  unfold nv
  induction ts with
  | nil => rfl
  | cons t ts ih =>
    cases h : decide (t = Ty.v) with
    | true => simp [List.any_cons, h]
    | false => rw [List.any_cons, h, Bool.false_or, ih, List.filter_cons_of_neg (by simpa using h)]
/-- what a letter is like -/
structure Gd (ds : List Dc) (n : Str) (a : Nat) (s : Bool) (v : Nat) : Prop where
  nm : n = "" ∨ n ∈ NMS
  em : n = "" → a = 0
  a2 : a ≤ 2
  v9 : v < 9
  ans : s = true → v < 3
  qst : s = false → ¬ (a = 0 ∧ hasV ds n = true) → v = 0
def Gm (ds : List Dc) : Mv → Prop
  | .flt => True
  | .mk n a s v => Gd ds n a s v
theorem hasV_em {ds : List Dc} (o : DOk ds) : hasV ds "" = false := by unfold hasV; rw [tyOf_em o]; rfl
theorem wd_le (e : Bool) : wd e ≤ 3 := by cases e <;> decide
theorem ans_gm {ds : List Dc} {n : Str} {a : Nat} {e : Bool} (hn : n = "" ∨ n ∈ NMS) (he : n = "" → a = 0) (ha : a ≤ 2) : ∀ m ∈ ansL n a e, Gm ds m := by
  intro m hm
  unfold ansL at hm
  obtain ⟨v, hv, rfl⟩ := List.mem_map.mp hm
  have := List.mem_range.mp hv
  have := wd_le e
  exact ⟨hn, he, ha, by omega, fun _ => by omega, fun h => by cases h⟩
theorem nms_ne {n : Str} (h : n ∈ NMS) : n = "" → False := fun e => by rw [e] at h; exact absurd h (by decide)
theorem let_gm {ds : List Dc} {k : Bool} (o : DOk ds) : ∀ m ∈ letL ds k, Gm ds m := by
  intro m hm
  unfold letL at hm
  rcases List.mem_append.mp hm with hm | hm
  · rcases List.mem_cons.mp hm with rfl | hm
    · exact ⟨.inl rfl, fun _ => rfl, by decide, by decide, fun h => (by cases h), fun _ _ => rfl⟩
    · rcases List.mem_append.mp hm with hm | hm
      · exact ans_gm (.inl rfl) (fun _ => rfl) (by decide) m hm
      · rw [List.mem_singleton.mp hm]; trivial
  · obtain ⟨d, hd, hm⟩ := List.mem_flatMap.mp hm
    have hn := o.nm d hd
    unfold perD at hm
    rcases List.mem_append.mp hm with hm | hm
    · rcases List.mem_append.mp hm with hm | hm
      · unfold qsL at hm
        obtain ⟨v, hv, rfl⟩ := List.mem_map.mp hm
        have hv := List.mem_range.mp hv
        have h2 := o.ty d hd
        have h3 := nv_le d.ty
        have h9 : 3 ^ nv d.ty ≤ 9 := by
          have : nv d.ty = 0 ∨ nv d.ty = 1 ∨ nv d.ty = 2 := by omega
          rcases this with e | e | e <;> rw [e] <;> decide
        refine ⟨.inr hn, fun e => (nms_ne hn e).elim, by decide, by omega, fun h => (by cases h), fun _ h => ?_⟩
        have : hasV ds d.nm = false := by
          cases q : hasV ds d.nm with
          | false => rfl
          | true => exact absurd ⟨rfl, q⟩ h
        unfold hasV at this
        rw [tyOf_nd o hd, nv_any] at this
        have e : nv d.ty = 0 := by simpa using this
        rw [e] at hv
        omega
      · exact ans_gm (.inr hn) (fun e => (nms_ne hn e).elim) (by decide) m hm
    · unfold argL at hm
      obtain ⟨p, hp, hm⟩ := List.mem_flatMap.mp hm
      have hi : p.2 < d.ty.length := by
        have := List.mem_zipIdx hp
        omega
      have h2 := o.ty d hd
      unfold ag1 at hm
      have key : ∀ e : Bool, m ∈ Mv.mk d.nm (p.2 + 1) false 0 :: ansL d.nm (p.2 + 1) e → Gm ds m := fun e hm => by
        rcases List.mem_cons.mp hm with rfl | hm
        · exact ⟨.inr hn, fun e => (nms_ne hn e).elim, by omega, by decide, fun h => (by cases h), fun _ _ => rfl⟩
        · exact ans_gm (.inr hn) (fun e => (nms_ne hn e).elim) (by omega) m hm
      split at hm
      · cases hm
      · exact key _ hm
      · exact key _ hm
/-! the name is what stands ahead of the first sign that is no letter -/
def nmL (l : List Nat) : List Nat := l.takeWhile fun c => decide (97 ≤ c)
def rsL (l : List Nat) : List Nat := l.dropWhile fun c => decide (97 ≤ c)
theorem nm_app {n r : List Nat} (h : ∀ c ∈ n, 97 ≤ c) (hr : ∀ c ∈ r, c < 97) : nmL (n ++ r) = n ∧ rsL (n ++ r) = r := by
  induction n with
  | nil =>
    cases r with
    | nil => exact ⟨rfl, rfl⟩
    | cons c r =>
      have := hr c (by simp)
      have : decide (97 ≤ c) = false := decide_eq_false (by omega)
      simp [nmL, rsL, List.takeWhile, List.dropWhile, this]
  | cons c n ih =>
    have h1 := h c (by simp)
    obtain ⟨i1, i2⟩ := ih fun c hc => h c (by simp [hc])
    have h1' : decide (97 ≤ c) = true := decide_eq_true h1
    unfold nmL rsL at *
    rw [List.cons_append, List.takeWhile_cons, List.dropWhile_cons, h1']
    simp [i1, i2]
theorem let97 {n : Str} (h : n = "" ∨ n ∈ NMS) : ∀ c ∈ tl n, 97 ≤ c := by
  rcases h with rfl | h
  · intro c hc; rw [show tl ("" : Str) = [] from rfl] at hc; cases hc
  · exact nms_of (P := fun l => ∀ c ∈ l, 97 ≤ c) (by decide) h
def restL (ds : List Dc) (n : Str) (a : Nat) (s : Bool) (v : Nat) : List Nat := (if a = 0 then [] else [46, 48 + a]) ++ (if s then [33, 48 + v] else if a = 0 ∧ hasV ds n = true then [63, 48 + v] else [63])
theorem rest_lt {ds : List Dc} {n : Str} {a : Nat} {s : Bool} {v : Nat} (ha : a ≤ 2) (hv : v < 9) : ∀ c ∈ restL ds n a s v, c < 97 ∧ c ≠ 32 := by
  intro c hc
  unfold restL at hc
  rcases List.mem_append.mp hc with hc | hc
  · split at hc
    · cases hc
    · simp only [List.mem_cons, List.not_mem_nil, or_false] at hc; omega
  · split at hc
    · simp only [List.mem_cons, List.not_mem_nil, or_false] at hc; omega
    · split at hc
      · simp only [List.mem_cons, List.not_mem_nil, or_false] at hc; omega
      · simp only [List.mem_cons, List.not_mem_nil, or_false] at hc; omega
theorem parts_of {ds : List Dc} {n : Str} {a : Nat} {s : Bool} {v : Nat} (g : Gd ds n a s v) : nmL (txL ds (.mk n a s v)) = tl n ∧ rsL (txL ds (.mk n a s v)) = restL ds n a s v :=
  nm_app (let97 g.nm) fun c hc => (rest_lt g.a2 g.v9 c hc).1
theorem rest_h0 {ds : List Dc} {n : Str} {s : Bool} {v : Nat} : (restL ds n 0 s v).head? ≠ some 46 := by
  unfold restL
  rw [if_pos rfl, List.nil_append]
  split
  · simp
  · split <;> simp
theorem rest_hs {ds : List Dc} {n : Str} {a : Nat} {s : Bool} {v : Nat} (h : ¬ a = 0) : (restL ds n a s v).head? = some 46 := by
  unfold restL
  rw [if_neg h]
  rfl
theorem tx_inj {ds : List Dc} {m1 m2 : Mv} (g1 : Gm ds m1) (g2 : Gm ds m2) (e : txL ds m1 = txL ds m2) : m1 = m2 := by
  have fl : ∀ {n a s v}, Gd ds n a s v → txL ds (.mk n a s v) = [33, 33] → False := fun {n a s v} g h => by
    obtain ⟨p1, p2⟩ := parts_of g
    rw [h] at p2
    have p2' : restL ds n a s v = [33, 33] := p2.symm
    unfold restL at p2'
    have := g.v9
    by_cases ha : a = 0
    · rw [if_pos ha, List.nil_append] at p2'
      split at p2'
      · simp at p2'; omega
      · split at p2' <;> simp at p2'
    · rw [if_neg ha] at p2'
      simp at p2'
  cases m1 with
  | flt =>
    cases m2 with
    | flt => rfl
    | mk n a s v => exact (fl g2 e.symm).elim
  | mk n a s v =>
    cases m2 with
    | flt => exact (fl g1 e).elim
    | mk n' a' s' v' =>
      obtain ⟨p1, p2⟩ := parts_of g1
      obtain ⟨q1, q2⟩ := parts_of g2
      rw [e] at p1 p2
      have en : n = n' := ext_tl (p1.symm.trans q1)
      subst en
      have er : restL ds n a s v = restL ds n a' s' v' := p2.symm.trans q2
      have h1 := g1.qst
      have h2 := g2.qst
      by_cases ha : a = 0
      · by_cases ha' : a' = 0
        · subst ha ha'
          unfold restL at er
          rw [if_pos rfl, List.nil_append, List.nil_append] at er
          cases s with
          | true =>
            cases s' with
            | true => simp at er; subst er; rfl
            | false =>
              simp only [if_true, Bool.false_eq_true, if_false] at er
              split at er <;> simp at er
          | false =>
            cases s' with
            | true =>
              simp only [if_true, Bool.false_eq_true, if_false] at er
              split at er <;> simp at er
            | false =>
              simp only [Bool.false_eq_true, if_false] at er
              by_cases hv : (0 = 0 ∧ hasV ds n = true)
              · simp [hv.2] at er; subst er; rfl
              · rw [h1 rfl hv, h2 rfl hv]
        · subst ha
          have := rest_h0 (ds := ds) (n := n) (s := s) (v := v)
          rw [er] at this
          exact absurd (rest_hs ha') this
      · by_cases ha' : a' = 0
        · subst ha'
          have := rest_h0 (ds := ds) (n := n) (s := s') (v := v')
          rw [← er] at this
          exact absurd (rest_hs ha) this
        · unfold restL at er
          rw [if_neg ha, if_neg ha'] at er
          simp only [List.cons_append, List.nil_append, List.cons.injEq, true_and, Nat.add_left_cancel_iff] at er
          obtain ⟨e1, er⟩ := er
          subst e1
          have nh : ¬ (a = 0 ∧ hasV ds n = true) := fun h => ha h.1
          rw [if_neg nh] at er
          cases s with
          | true =>
            cases s' with
            | true => simp at er; subst er; rfl
            | false => rw [if_neg nh] at er; simp at er
          | false =>
            cases s' with
            | true => rw [if_neg (by decide)] at er; simp at er
            | false => rw [h1 rfl nh, h2 rfl nh]
theorem tx_sp {ds : List Dc} {m : Mv} (g : Gm ds m) : 32 ∉ txL ds m ∧ (∀ c ∈ txL ds m, c < 1114112) ∧ txL ds m ≠ [] ∧ (txL ds m).length ≤ 20 := by
  cases m with
  | flt => rw [show txL ds Mv.flt = [33, 33] from rfl]; exact ⟨by decide, by decide, by decide, by decide⟩
  | mk n a s v =>
    have e : txL ds (.mk n a s v) = tl n ++ restL ds n a s v := rfl
    have hr := rest_lt (ds := ds) (n := n) (s := s) g.a2 g.v9
    have hn : (∀ c ∈ tl n, 97 ≤ c ∧ c ≤ 122) ∧ (tl n).length ≤ 4 := by
      rcases g.nm with rfl | h
      · exact ⟨fun c hc => (by rw [show tl ("" : Str) = [] from rfl] at hc; cases hc), by decide⟩
      · exact nms_of (P := fun l => (∀ c ∈ l, 97 ≤ c ∧ c ≤ 122) ∧ l.length ≤ 4) (by decide) h
    rw [e]
    refine ⟨fun h => ?_, fun c hc => ?_, fun h => ?_, ?_⟩
    · rcases List.mem_append.mp h with h | h
      · have := (hn.1 _ h).1; omega
      · exact (hr _ h).2 rfl
    · rcases List.mem_append.mp hc with h | h
      · have := (hn.1 _ h).2; omega
      · have := (hr _ h).1; omega
    · have := congrArg List.length h
      unfold restL at this
      rw [List.length_append, List.length_append] at this
      have h3 : 1 ≤ (if s = true then [33, 48 + v] else if a = 0 ∧ hasV ds n = true then [63, 48 + v] else [63]).length := by (repeat' split) <;> simp
      simp only [List.length_nil] at this
      omega
    · rw [List.length_append]
      unfold restL
      rw [List.length_append]
      have h1 : (if a = 0 then ([] : List Nat) else [46, 48 + a]).length ≤ 2 := by split <;> simp
      have h3 : (if s = true then [33, 48 + v] else if a = 0 ∧ hasV ds n = true then [63, 48 + v] else [63]).length ≤ 2 := by (repeat' split) <;> simp
      have := hn.2
      omega
theorem rest_cases {ds : List Dc} {n : Str} {a : Nat} {s : Bool} {v : Nat} : (a = 0 ∧ s = true ∧ restL ds n a s v = [33, 48 + v]) ∨ (a = 0 ∧ s = false ∧ hasV ds n = true ∧ restL ds n a s v = [63, 48 + v]) ∨
    (a = 0 ∧ s = false ∧ hasV ds n = false ∧ restL ds n a s v = [63]) ∨ (a ≠ 0 ∧ s = true ∧ restL ds n a s v = [46, 48 + a, 33, 48 + v]) ∨ (a ≠ 0 ∧ s = false ∧ restL ds n a s v = [46, 48 + a, 63]) := by
  unfold restL
  by_cases ha : a = 0
  · cases s <;> cases h : hasV ds n <;> simp [ha]
  · cases s <;> simp [ha]
/-! the odd ones -/
def ODDS : List Str := ["", "x?", "!3", "??", "f", "?", "!", "a.3?", "hole!9", "f.0?", "?0"]
def BAD : List Str := ["", "x?", "!3", "??", "f", "!", "a.3?", "hole!9", "f.0?", "?0"]
theorem bad_not {ds : List Dc} (o : DOk ds) {m : Mv} (g : Gm ds m) : txt ds m ∉ BAD := by
  intro h
  have h' : txL ds m ∈ BAD.map tl := by
    have := List.mem_map_of_mem (f := tl) h
    exact this
  have hb : BAD.map tl = [[], [120, 63], [33, 51], [63, 63], [102], [33], [97, 46, 51, 63], [104, 111, 108, 101, 33, 57], [102, 46, 48, 63], [63, 48]] := by decide +kernel
  rw [hb] at h'
  cases m with
  | flt => rw [show txL ds Mv.flt = [33, 33] from rfl] at h'; exact absurd h' (by decide)
  | mk n a s v =>
    obtain ⟨p1, p2⟩ := parts_of g
    generalize hl : txL ds (.mk n a s v) = l at *
    have hn : tl n = [] ∨ tl n ∈ [[97], [102], [102, 97], [122, 122, 122, 122], [98], [104, 111, 108, 101]] := by
      rcases g.nm with rfl | h
      · exact .inl rfl
      · exact .inr (nms_of (P := fun l => l ∈ [[97], [102], [102, 97], [122, 122, 122, 122], [98], [104, 111, 108, 101]]) (by decide) h)
    have he : tl n = [] → a = 0 ∧ hasV ds n = false := fun e => by
      have : n = "" := ext_tl e
      exact ⟨g.em this, by rw [this]; exact hasV_em o⟩
    have ha := g.a2
    have hv := g.ans
    rw [← p1] at hn he
    have rc := rest_cases (ds := ds) (n := n) (a := a) (s := s) (v := v)
    rw [← p2] at rc
    clear hb p1 p2 h hl g
    simp only [List.mem_cons, List.not_mem_nil, or_false] at h'
    have n1 : nmL [] = [] ∧ rsL [] = [] := ⟨by decide, by decide⟩
    have n2 : nmL [120, 63] = [120] := by decide
    have n3 : nmL [33, 51] = [] ∧ rsL [33, 51] = [33, 51] := ⟨by decide, by decide⟩
    have n4 : nmL [63, 63] = [] ∧ rsL [63, 63] = [63, 63] := ⟨by decide, by decide⟩
    have n5 : nmL [102] = [102] ∧ rsL [102] = [] := ⟨by decide, by decide⟩
    have n6 : nmL [33] = [] ∧ rsL [33] = [33] := ⟨by decide, by decide⟩
    have n7 : nmL [97, 46, 51, 63] = [97] ∧ rsL [97, 46, 51, 63] = [46, 51, 63] := ⟨by decide, by decide⟩
    have n8 : nmL [104, 111, 108, 101, 33, 57] = [104, 111, 108, 101] ∧ rsL [104, 111, 108, 101, 33, 57] = [33, 57] := ⟨by decide, by decide⟩
    have n9 : nmL [102, 46, 48, 63] = [102] ∧ rsL [102, 46, 48, 63] = [46, 48, 63] := ⟨by decide, by decide⟩
    have n10 : nmL [63, 48] = [] ∧ rsL [63, 48] = [63, 48] := ⟨by decide, by decide⟩
    rcases h' with rfl | rfl | rfl | rfl | rfl | rfl | rfl | rfl | rfl | rfl
    · rw [n1.2] at rc; rcases rc with ⟨_, _, e⟩ | ⟨_, _, _, e⟩ | ⟨_, _, _, e⟩ | ⟨_, _, e⟩ | ⟨_, _, e⟩ <;> cases e
    · rw [n2] at hn; exact absurd hn (by decide)
    · obtain ⟨a0, hf⟩ := he n3.1
      rw [n3.2] at rc; rcases rc with ⟨_, q, e⟩ | ⟨_, _, q, e⟩ | ⟨_, _, _, e⟩ | ⟨q, _, e⟩ | ⟨q, _, e⟩
      · have := hv q; simp at e; omega
      all_goals simp at e
    · obtain ⟨a0, hf⟩ := he n4.1
      rw [n4.2] at rc; rcases rc with ⟨_, q, e⟩ | ⟨_, _, q, e⟩ | ⟨_, _, _, e⟩ | ⟨q, _, e⟩ | ⟨q, _, e⟩
      · simp at e
      · rw [hf] at q; cases q
      all_goals simp at e
    · rw [n5.2] at rc; rcases rc with ⟨_, _, e⟩ | ⟨_, _, _, e⟩ | ⟨_, _, _, e⟩ | ⟨_, _, e⟩ | ⟨_, _, e⟩ <;> cases e
    · rw [n6.2] at rc; rcases rc with ⟨_, _, e⟩ | ⟨_, _, _, e⟩ | ⟨_, _, _, e⟩ | ⟨_, _, e⟩ | ⟨_, _, e⟩ <;> simp at e
    · rw [n7.2] at rc; rcases rc with ⟨_, _, e⟩ | ⟨_, _, _, e⟩ | ⟨_, _, _, e⟩ | ⟨_, _, e⟩ | ⟨_, _, e⟩ <;> simp at e
      omega
    · rw [n8.2] at rc; rcases rc with ⟨_, q, e⟩ | ⟨_, _, _, e⟩ | ⟨_, _, _, e⟩ | ⟨_, _, e⟩ | ⟨_, _, e⟩
      · have := hv q; simp at e; omega
      all_goals simp at e
    · rw [n9.2] at rc; rcases rc with ⟨_, _, e⟩ | ⟨_, _, _, e⟩ | ⟨_, _, _, e⟩ | ⟨q, _, e⟩ | ⟨q, _, e⟩ <;> simp at e
      omega
    · obtain ⟨a0, hf⟩ := he n10.1
      rw [n10.2] at rc; rcases rc with ⟨_, q, e⟩ | ⟨_, _, q, e⟩ | ⟨_, _, _, e⟩ | ⟨q, _, e⟩ | ⟨q, _, e⟩
      · simp at e
      · rw [hf] at q; cases q
      all_goals simp at e
open TL (tl ext_tl tl_append joinL)
structure AnswersS (g : List U → Mem → Res U) : Prop where
  ap : ∀ {n kd : Str} {a : Nat} {e : Bool} {μ : Mem} {Q : U → Mem → Prop} {E : Str → Mem → Prop}, (kd = "exp" ↔ e = true) → (∀ r μ', Fr μ μ' → μ.length ≤ r → μ'[r]? = some (.lst ((ansL n a e).map mvU)) → Q (.ref r) μ') → wpE (g [.str n, .int (a : Nat), .str kd] μ) Q E
theorem answers_s {C : Calls} : AnswersS (runDef 4 (b_answers_of C)) := by
  constructor
  intro n kd a e μ Q E he q
  unfold b_answers_of
  walk_at "go"
  have key : ∀ m : Nat, m = wd e → wpE (lcGo (.rng 0 1 m) [3] (.one 3) tAll (fTup (aCons (fVar 0) (aCons (fVar 1) (aCons (fC (.bl true)) (aCons (fVar 3) aNil))))) [some (.str n), some (.int (a : Nat)), some (.str kd), none] μ.length fuelF 0 (μ ++ [.lst []])) Q E := fun m hm => by
    refine lc_mapR (wd e) (fun v => mvU (.mk n a true v)) hm (by have := wd_le e; omega) (fun i μ' hi f => ?_) fun μ' f c => ?_
    · refine ⟨_, rfl, ?_⟩
      walk_at "go"
      exact ⟨rfl, .refl⟩
    · refine q _ _ f (Nat.le_refl _) ?_
      rw [c]; unfold ansL; rw [List.map_map]; rfl
  by_cases h : kd = "exp"
  · rw [if_pos h]
    exact key _ (by rw [he.mp h]; rfl)
  · rw [if_neg h]
    exact key _ (by cases e with | true => exact absurd (he.mpr rfl) h | false => rfl)
/-! questions -/
structure QuestionsS (g : List U → Mem → Res U) : Prop where
  ap : ∀ {d : Dc} {μ : Mem} {Q : U → Mem → Prop} {E : Str → Mem → Prop}, d.ty.length ≤ 2 → (∀ r μ', Fr μ μ' → μ.length ≤ r → μ'[r]? = some (.lst ((qsL d).map mvU)) → Q (.ref r) μ') → wpE (g [dcU d] μ) Q E
theorem tyS_v {t : Ty} : (tyS t = "val") = (t = .v) := by cases t <;> simp [tyS] <;> decide
theorem tyS_e {t : Ty} : (tyS t = "exp") = (t = .e) := by cases t <;> simp [tyS] <;> decide
theorem nv_snoc (ts : List Ty) (t : Ty) : nv (ts ++ [t]) = nv ts + if t = .v then 1 else 0 := by
  unfold nv
  rw [List.filter_append, List.length_append]
  congr 1
  by_cases h : t = .v <;> simp [h]
theorem questions_s {C : Calls} : QuestionsS (runDef 7 (b_questions_of C)) := by
  constructor
  intro d μ Q E ht q
  unfold b_questions_of dcU
  walk_at "go"
  rw [s_asg, w_var]
  refine ⟨_, rfl, _, rfl, ?_⟩
  simp (config := {decide := true}) only [Dg.setAll, w_run, w_geXI, w_geXP, w_lz, w_op, w_isi, Dg.wipeU, w_powI, w_intB, w_sl, w_oNone, w_oSome, w_slT, w_slF, w_ixF, w_lenF, w_abs, w_max2, w_min2, w_fdivI, w_neg, w_andE, w_orE, w_notE, w_chain, w_c, w_var, w_call, w_def, w_anil, w_acons, w_tup, w_lst, w_int, w_intB, w_lenT, w_addI, w_subI, w_modI, w_mulI, w_ltI, w_leI, w_gtI, w_geI, w_eq, w_ne, w_ixT, w_if, w_nt, w_an, w_or, w_all, w_tstB, w_tst, w_app, w_lc, w_for, w_iseqT, w_rg1, w_rev1, w_d0, Dg.eq_str, Dg.eq_int, s_seq, s_next, s_brk, s_cnt, s_expr, s_ret, s_retN, s_if, w_getE, w_items, w_keys, w_fmt, w_js0, w_js, s_asg1, s_store, s_tryAs, s_try, w_isX, s_raise, List.map_cons, List.map_nil, List.cons_append, List.nil_append, List.length_cons, List.length_nil, List.replicate_succ, List.replicate_zero, Nat.add_sub_cancel, Nat.sub_self, Nat.sub_zero, Nat.reduceAdd, Nat.reduceSub, Nat.zero_add, List.set_cons_succ, List.set_cons_zero, List.getElem?_cons_zero, List.getElem?_cons_succ, Option.some.injEq, exists_eq_left', exists_eq_left, exists_eq_right', U.bl.injEq, U.int.injEq, U.ref.injEq, U.str.injEq, atI_0, atI_1, atI_2, atI_3, atI_4, atI_5, if_true, if_false, true_and, and_true, decide_true, decide_false, Bool.not_true, Bool.not_false, reduceCtorEq, ite_true, ite_false, decide_eq_true_eq, Bool.true_eq_false, Bool.false_eq_true]
  refine for_seq (fun i s' μ' => μ' = μ ∧ ∃ x5 x6, s' = [some (dcU d), some (.str d.nm), some (.tup (d.ty.map fun t => .str (tyS t))), some (.str (kS d.ex)), some (.int ((3 ^ nv (d.ty.take i) : Nat) : Int)), x5, x6]) (by simp; omega) ⟨rfl, _, _, rfl⟩ ?_ ?_
  · rintro i s' μ' hi ⟨rfl, x5, x6, rfl⟩
    have hi' : i < d.ty.length := by simpa using hi
    have ei : (d.ty.map fun t => U.str (tyS t))[i] = .str (tyS d.ty[i]) := by simp
    rw [ei]
    refine ⟨_, rfl, ?_⟩
    walk_at "go"
    rw [take_snoc hi', nv_snoc]
    by_cases h : d.ty[i] = .v
    · rw [if_pos (tyS_v.mpr h), if_pos h]
      have e3 : ((3 ^ (nv (d.ty.take i) + 1) : Nat) : Int) = ((3 ^ nv (d.ty.take i) : Nat) : Int) * 3 := by rw [Nat.pow_succ, Int.natCast_mul]; rfl
      rw [e3]
      exact ⟨by simp [big64], _, _, rfl⟩
    · rw [if_neg (fun e => h (tyS_v.mp e)), if_neg h]
      exact ⟨_, _, rfl⟩
  · rintro s' μ' ⟨rfl, x5, x6, rfl⟩
    walk_at "go"
    rw [List.length_map, List.take_length]
    have hn : 3 ^ nv d.ty ≤ 9 := by
      have h3 := nv_le d.ty
      have : nv d.ty = 0 ∨ nv d.ty = 1 ∨ nv d.ty = 2 := by omega
      rcases this with e | e | e <;> rw [e] <;> decide
    unfold qsL at q
    generalize 3 ^ nv d.ty = m at *
    refine ⟨by simp [okR]; omega, ?_⟩
    refine lc_mapR m (fun v => mvU (.mk d.nm 0 false v)) (by simp) (by omega) (fun i μ2 hi f => ?_) fun μ2 f c => ?_
    · refine ⟨_, rfl, ?_⟩
      walk_at "go"
      exact ⟨rfl, .refl⟩
    · refine q _ _ f (Nat.le_refl _) ?_
      rw [c]; rw [List.map_map]; rfl
/-! letters of arguments -/
structure ArgsS (g : List U → Mem → Res U) : Prop where
  ap : ∀ {d : Dc} {μ : Mem} {Q : U → Mem → Prop} {E : Str → Mem → Prop}, d.ty.length ≤ 2 → (∀ r μ', Fr μ μ' → μ.length ≤ r → μ'[r]? = some (.lst ((argL d).map mvU)) → Q (.ref r) μ') → wpE (g [dcU d] μ) Q E
theorem ans_len {n : Str} {a : Nat} {e : Bool} : (ansL n a e).length ≤ 3 := by unfold ansL; rw [List.length_map, List.length_range]; exact wd_le e
theorem ag1_len {n : Str} {p : Ty × Nat} : (ag1 n p).length ≤ 4 := by
  unfold ag1
  have h1 := ans_len (n := n) (a := p.2 + 1) (e := false)
  have h2 := ans_len (n := n) (a := p.2 + 1) (e := true)
  split <;> simp <;> omega
theorem flat_len {α β : Type} (f : α → List β) (k : Nat) (h : ∀ x, (f x).length ≤ k) : ∀ xs : List α, (xs.flatMap f).length ≤ xs.length * k
  | [] => by simp
  | x :: xs => by
    rw [List.flatMap_cons, List.length_append, List.length_cons, Nat.succ_mul]
    have := h x
    have := flat_len f k h xs
    omega
theorem args_s {C : Calls} (h0 : AnswersS (C 0)) : ArgsS (runDef 7 (b_letters_of_args C)) := by
  constructor
  intro d μ Q E ht q
  unfold b_letters_of_args dcU
  walk_at "go"
  rw [s_asg, w_var]
  refine ⟨_, rfl, _, rfl, ?_⟩
  simp (config := {decide := true}) only [Dg.setAll, w_run, w_geXI, w_geXP, w_lz, w_op, w_isi, Dg.wipeU, w_powI, w_intB, w_sl, w_oNone, w_oSome, w_slT, w_slF, w_ixF, w_lenF, w_abs, w_max2, w_min2, w_fdivI, w_neg, w_andE, w_orE, w_notE, w_chain, w_c, w_var, w_call, w_def, w_anil, w_acons, w_tup, w_lst, w_int, w_intB, w_lenT, w_addI, w_subI, w_modI, w_mulI, w_ltI, w_leI, w_gtI, w_geI, w_eq, w_ne, w_ixT, w_if, w_nt, w_an, w_or, w_all, w_tstB, w_tst, w_app, w_lc, w_for, w_iseqT, w_rg1, w_rev1, w_d0, Dg.eq_str, Dg.eq_int, s_seq, s_next, s_brk, s_cnt, s_expr, s_ret, s_retN, s_if, w_getE, w_items, w_keys, w_fmt, w_js0, w_js, s_asg1, s_store, s_tryAs, s_try, w_isX, s_raise, List.map_cons, List.map_nil, List.cons_append, List.nil_append, List.length_cons, List.length_nil, List.replicate_succ, List.replicate_zero, Nat.add_sub_cancel, Nat.sub_self, Nat.sub_zero, Nat.reduceAdd, Nat.reduceSub, Nat.zero_add, List.set_cons_succ, List.set_cons_zero, List.getElem?_cons_zero, List.getElem?_cons_succ, Option.some.injEq, exists_eq_left', exists_eq_left, exists_eq_right', U.bl.injEq, U.int.injEq, U.ref.injEq, U.str.injEq, atI_0, atI_1, atI_2, atI_3, atI_4, atI_5, if_true, if_false, true_and, and_true, decide_true, decide_false, Bool.not_true, Bool.not_false, reduceCtorEq, ite_true, ite_false, decide_eq_true_eq, Bool.true_eq_false, Bool.false_eq_true]
  rw [w_enumT rfl]
  have hz : (enumL (d.ty.map fun t => U.str (tyS t))).length = d.ty.length := by simp [enumL]
  refine for_seq (fun i s' μ' => μ'[μ.length]? = some (.lst (((d.ty.zipIdx.take i).flatMap (ag1 d.nm)).map mvU)) ∧ Fr μ μ' ∧ ∃ x5 x6, s' = [some (dcU d), some (.str d.nm), some (.tup (d.ty.map fun t => .str (tyS t))), some (.str (kS d.ex)), some (.ref μ.length), x5, x6]) (by rw [hz]; omega) ⟨get_snoc, Fr.refl.snoc, _, _, rfl⟩ ?_ ?_
  · rintro i s' μ1 hi ⟨c1, f1, x5, x6, rfl⟩
    rw [hz] at hi
    have ei : (enumL (d.ty.map fun t => U.str (tyS t)))[i]'(by rw [hz]; exact hi) = .tup [.int (i : Nat), .str (tyS d.ty[i])] := by simp [enumL]
    rw [ei]
    refine ⟨[some (dcU d), some (.str d.nm), some (.tup (d.ty.map fun t => .str (tyS t))), some (.str (kS d.ex)), some (.ref μ.length), some (.int (i : Nat)), some (.str (tyS d.ty[i]))], rfl, ?_⟩
    walk_at "go"
    have hi' : i < d.ty.zipIdx.length := by simpa using hi
    rw [take_snoc hi', List.flatMap_append]
    have e1 : d.ty.zipIdx[i] = (d.ty[i], i) := by simp
    rw [e1]
    have l1 := flat_len (ag1 d.nm) 4 (fun _ => ag1_len) (d.ty.zipIdx.take i)
    have l2 : ((d.ty.zipIdx.take i).flatMap (ag1 d.nm)).length ≤ 8 := Nat.le_trans l1 (by rw [List.length_take, List.length_zipIdx]; omega)
    by_cases h : d.ty[i] = .v
    · rw [if_neg (by rw [decide_eq_true (tyS_v.mpr h)]; decide), h]
      refine ⟨?_, f1, _, _, rfl⟩
      simpa [ag1] using c1
    · rw [if_pos (by rw [decide_eq_false (fun e => h (tyS_v.mp e))]; rfl)]
      refine ⟨_, lstU_L c1, ?_⟩
      rw [w_append c1 (by rw [List.length_map]; exact Nat.lt_of_le_of_lt l2 (by decide))]
      have c2 := get_set (c := .lst (((d.ty.zipIdx.take i).flatMap (ag1 d.nm)).map mvU ++ [U.tup [.str d.nm, .int ((i : Int) + 1), .bl false, .int 0]])) c1
      have f2 := f1.put (c := .lst (((d.ty.zipIdx.take i).flatMap (ag1 d.nm)).map mvU ++ [U.tup [.str d.nm, .int ((i : Int) + 1), .bl false, .int 0]])) (Nat.le_refl _)
      generalize μ1.set μ.length (.lst (((d.ty.zipIdx.take i).flatMap (ag1 d.nm)).map mvU ++ [U.tup [.str d.nm, .int ((i : Int) + 1), .bl false, .int 0]])) = μ2 at *
      try walk_at "go"
      refine ⟨_, lstU_L c2, ?_⟩
      rw [show ((i : Int) + 1) = ((i + 1 : Nat) : Int) by omega]
      obtain ⟨e, ea, hk⟩ : ∃ e, ag1 d.nm (d.ty[i], i) = .mk d.nm (i + 1) false 0 :: ansL d.nm (i + 1) e ∧ (tyS d.ty[i] = "exp" ↔ e = true) := by
        cases hc : d.ty[i] with
        | v => exact absurd hc h
        | c => exact ⟨false, rfl, by decide⟩
        | e => exact ⟨true, rfl, by decide⟩
      refine h0.ap (a := i + 1) (e := e) hk fun r μ3 f3 hr c3 => ?_
      have c2' := f3.at_ _ _ c2
      rw [w_extL c2' c3 (by rw [List.length_append, List.length_map, List.length_map]; have := ans_len (n := d.nm) (a := i + 1) (e := e); exact Nat.le_trans (show _ ≤ 12 by simp only [List.length_cons, List.length_nil]; omega) (by decide))]
      refine ⟨?_, (f2.trans f3).put (Nat.le_refl _), _, _, rfl⟩
      rw [get_set c2', List.flatMap_cons, List.flatMap_nil, List.append_nil, ea, List.map_append, List.map_cons, List.append_assoc]
      rfl
  · rintro s' μ1 ⟨c1, f1, x5, x6, rfl⟩
    walk_at "go"
    refine q _ _ f1 (Nat.le_refl _) ?_
    rw [c1, hz]
    unfold argL
    rw [List.take_of_length_le (by simp)]
open TL (tl ext_tl tl_append joinL)
/-! letters -/
structure LettersS (g : List U → Mem → Res U) : Prop where
  ap : ∀ {ds : List Dc} {k : Bool} {μ : Mem} {Q : U → Mem → Prop} {E : Str → Mem → Prop}, DOk ds → (∀ r μ', Fr μ μ' → μ.length ≤ r → μ'[r]? = some (.lst ((letL ds k).map mvU)) → Q (.ref r) μ') → wpE (g [dsU ds, .str (kS k)] μ) Q E
theorem qs_len {d : Dc} (h : d.ty.length ≤ 2) : (qsL d).length ≤ 9 := by
  unfold qsL; rw [List.length_map, List.length_range]
  have h3 := nv_le d.ty
  have : nv d.ty = 0 ∨ nv d.ty = 1 ∨ nv d.ty = 2 := by omega
  rcases this with e | e | e <;> rw [e] <;> decide
theorem arg_len {d : Dc} (h : d.ty.length ≤ 2) : (argL d).length ≤ 8 := by
  unfold argL
  have := flat_len (ag1 d.nm) 4 (fun _ => ag1_len) d.ty.zipIdx
  rw [List.length_zipIdx] at this
  omega
theorem per_len {d : Dc} (h : d.ty.length ≤ 2) : (perD d).length ≤ 20 := by
  unfold perD
  have := qs_len h
  have := arg_len h
  have := ans_len (n := d.nm) (a := 0) (e := d.ex)
  rw [List.length_append, List.length_append]
  omega
theorem flat_lenM {α β : Type} (f : α → List β) (k : Nat) : ∀ xs : List α, (∀ x ∈ xs, (f x).length ≤ k) → (xs.flatMap f).length ≤ xs.length * k
  | [], _ => by simp
  | x :: xs, h => by
    rw [List.flatMap_cons, List.length_append, List.length_cons, Nat.succ_mul]
    have := h x (by simp)
    have := flat_lenM f k xs fun y hy => h y (by simp [hy])
    omega
theorem let_len {ds : List Dc} {k : Bool} (o : DOk ds) : (letL ds k).length ≤ 100 := by
  unfold letL
  have h1 := flat_lenM perD 20 ds fun d hd => per_len (o.ty d hd)
  have h2 := ans_len (n := "") (a := 0) (e := k)
  have := o.len
  rw [List.length_append, List.length_cons, List.length_append]
  simp only [List.length_cons, List.length_nil]
  omega
theorem kS_e {k : Bool} : kS k = "exp" ↔ k = true := by cases k <;> decide
theorem letters_s {C : Calls} (h0 : AnswersS (C 0)) (h1 : QuestionsS (C 1)) (h2 : ArgsS (C 2)) : LettersS (runDef 4 (b_letters C)) := by
  constructor
  intro ds k μ Q E o q
  unfold b_letters
  walk_at "go"
  rw [w_astar]
  walk_at "go"
  refine h0.ap (a := 0) (e := k) kS_e fun r0 μ1 f1 hr1 c1 => ?_
  refine ⟨_, seq_L c1, ?_⟩
  try walk_at "go"
  refine ⟨by have := ans_len (n := "") (a := 0) (e := k); rw [List.length_append, List.length_map]; exact Nat.le_trans (show _ ≤ 12 by simp only [List.length_cons, List.length_nil]; omega) (by decide), ?_⟩
  have e0 : U.tup [.str "", .int 0, .bl false, .int 0] :: ((ansL "" 0 k).map mvU ++ [U.tup [.str "!"]]) = ((Mv.mk "" 0 false 0 :: (ansL "" 0 k ++ [.flt])) ++ ([] : List Dc).flatMap perD).map mvU := by
    simp [mvU]
  rw [e0]
  show Dg.wpS (sForGo _ _ fuelF (.seq (ds.map dcU)) 0 _ _) _
  refine for_seq (fun i s' μ' => μ'[μ1.length]? = some (.lst (((Mv.mk "" 0 false 0 :: (ansL "" 0 k ++ [.flt])) ++ (ds.take i).flatMap perD).map mvU)) ∧ Fr μ1 μ' ∧ ∃ x3, s' = [some (dsU ds), some (.str (kS k)), some (.ref μ1.length), x3]) (by rw [List.length_map]; have := o.len; omega) ⟨get_snoc, Fr.refl.snoc, _, rfl⟩ ?_ ?_
  · rintro i s' μ2 hi ⟨c2, f2, x3, rfl⟩
    have hi' : i < ds.length := by simpa using hi
    have ei : (ds.map dcU)[i] = dcU ds[i] := by simp
    rw [ei]
    have hd : ds[i] ∈ ds := List.getElem_mem _
    have ht := o.ty _ hd
    have lp : ((ds.take i).flatMap perD).length ≤ 60 := Nat.le_trans (flat_lenM perD 20 _ fun d h => per_len (o.ty d (List.mem_of_mem_take h))) (by rw [List.length_take]; have := o.len; omega)
    have la := ans_len (n := "") (a := 0) (e := k)
    have l0 : ((Mv.mk "" 0 false 0 :: (ansL "" 0 k ++ [.flt])) ++ (ds.take i).flatMap perD).length ≤ 70 := by
      rw [List.length_append, List.length_cons, List.length_append]; simp only [List.length_cons, List.length_nil]; omega
    have eF : ((Mv.mk "" 0 false 0 :: (ansL "" 0 k ++ [.flt])) ++ (ds.take (i + 1)).flatMap perD) = (((((Mv.mk "" 0 false 0 :: (ansL "" 0 k ++ [.flt])) ++ (ds.take i).flatMap perD) ++ qsL ds[i]) ++ ansL ds[i].nm 0 ds[i].ex) ++ argL ds[i]) := by
      rw [take_snoc hi', List.flatMap_append, List.flatMap_cons, List.flatMap_nil, List.append_nil]
      unfold perD
      simp only [List.append_assoc]
    rw [eF]
    generalize ds[i] = d at *
    generalize ((Mv.mk "" 0 false 0 :: (ansL "" 0 k ++ [.flt])) ++ (ds.take i).flatMap perD) = acc at *
    refine ⟨[some (dsU ds), some (.str (kS k)), some (.ref μ1.length), some (dcU d)], rfl, ?_⟩
    walk_at "go"
    refine ⟨_, lstU_L c2, ?_⟩
    refine h1.ap ht fun r3 μ3 f3 _ c3 => ?_
    have lq := qs_len ht
    have lr := arg_len ht
    have ls := ans_len (n := d.nm) (a := 0) (e := d.ex)
    have c2a := f3.at_ _ _ c2
    rw [w_extL c2a c3 (by rw [List.length_map, List.length_map]; exact Nat.le_trans (show _ ≤ 100 by omega) (by decide))]
    have d3 := get_set (c := .lst (acc.map mvU ++ (qsL d).map mvU)) c2a
    have g3 := (f2.trans f3).put (c := .lst (acc.map mvU ++ (qsL d).map mvU)) (Nat.le_refl _)
    generalize μ3.set μ1.length (.lst (acc.map mvU ++ (qsL d).map mvU)) = μ4 at *
    rw [← List.map_append] at d3
    have l1 : (acc ++ qsL d).length ≤ 80 := by rw [List.length_append]; omega
    generalize acc ++ qsL d = acc1 at *
    try walk_at "go"
    refine ⟨_, lstU_L d3, ?_⟩
    unfold dcU
    walk_at "go"
    refine h0.ap (a := 0) (e := d.ex) kS_e fun r5 μ5 f5 _ c5 => ?_
    have d3a := f5.at_ _ _ d3
    rw [w_extL d3a c5 (by rw [List.length_map, List.length_map]; exact Nat.le_trans (show _ ≤ 100 by omega) (by decide))]
    have d5 := get_set (c := .lst (acc1.map mvU ++ (ansL d.nm 0 d.ex).map mvU)) d3a
    have g5 := (g3.trans f5).put (c := .lst (acc1.map mvU ++ (ansL d.nm 0 d.ex).map mvU)) (Nat.le_refl _)
    generalize μ5.set μ1.length (.lst (acc1.map mvU ++ (ansL d.nm 0 d.ex).map mvU)) = μ6 at *
    rw [← List.map_append] at d5
    have l2 : (acc1 ++ ansL d.nm 0 d.ex).length ≤ 90 := by rw [List.length_append]; omega
    generalize acc1 ++ ansL d.nm 0 d.ex = acc2 at *
    try walk_at "go"
    refine ⟨_, lstU_L d5, ?_⟩
    refine h2.ap (d := d) ht fun r7 μ7 f7 _ c7 => ?_
    have d5a := f7.at_ _ _ d5
    rw [w_extL d5a c7 (by rw [List.length_map, List.length_map]; exact Nat.le_trans (show _ ≤ 100 by omega) (by decide))]
    refine ⟨?_, (g5.trans f7).put (Nat.le_refl _), _, rfl⟩
    rw [get_set d5a, ← List.map_append]
  · rintro s' μ2 ⟨c2, f2, x3, rfl⟩
    walk_at "go"
    refine q _ _ (f1.trans f2) f1.le ?_
    rw [c2, List.length_map, List.take_length]
    rfl
/-! whose move it is -/
theorem eq_flt {m : Mv} {μ : Mem} : eqU (mvU m) (.tup [.str "!"]) μ = some (match m with | .flt => true | _ => false) := by
  cases m with
  | flt => exact eq_self (by decide) (by decide)
  | mk n a s v =>
    unfold Dg.eqU datU mvU
    simp [toD, toDs, PyData.depth, PyData.depthAll, eqLim, PyData.eqv, PyData.eqvAll]
theorem eq_bl {a b : Bool} {μ : Mem} : eqU (.bl a) (.bl b) μ = some (decide (a = b)) := by
  cases a <;> cases b <;> rfl
def otherM : Mv → Bool
  | .flt => false
  | .mk n a s _ => !(decide ((decide (n = "") || decide (0 < a)) = s))
structure OtherS (g : List U → Mem → Res U) : Prop where
  ap : ∀ {m : Mv} {μ : Mem} {Q : U → Mem → Prop} {E : Str → Mem → Prop}, Q (.bl (otherM m)) μ → wpE (g [mvU m] μ) Q E
theorem other_s {C : Calls} : OtherS (runDef 5 (b_is_other C)) := by
  constructor
  intro m μ Q E q
  unfold b_is_other
  walk_at "go"
  refine ⟨_, eq_flt, ?_⟩
  cases m with
  | flt =>
    rw [if_pos rfl]
    exact q
  | mk n a s v =>
    rw [if_neg (by simp), s_asg, w_var]
    refine ⟨_, rfl, _, rfl, ?_⟩
    simp (config := {decide := true}) only [Dg.setAll, w_run, w_geXI, w_geXP, w_lz, w_op, w_isi, Dg.wipeU, w_powI, w_intB, w_sl, w_oNone, w_oSome, w_slT, w_slF, w_ixF, w_lenF, w_abs, w_max2, w_min2, w_fdivI, w_neg, w_andE, w_orE, w_notE, w_chain, w_c, w_var, w_call, w_def, w_anil, w_acons, w_tup, w_lst, w_int, w_intB, w_lenT, w_addI, w_subI, w_modI, w_mulI, w_ltI, w_leI, w_gtI, w_geI, w_eq, w_ne, w_ixT, w_if, w_nt, w_an, w_or, w_all, w_tstB, w_tst, w_app, w_lc, w_for, w_iseqT, w_rg1, w_rev1, w_d0, Dg.eq_str, Dg.eq_int, s_seq, s_next, s_brk, s_cnt, s_expr, s_ret, s_retN, s_if, w_getE, w_items, w_keys, w_fmt, w_js0, w_js, s_asg1, s_store, s_tryAs, s_try, w_isX, s_raise, List.map_cons, List.map_nil, List.cons_append, List.nil_append, List.length_cons, List.length_nil, List.replicate_succ, List.replicate_zero, Nat.add_sub_cancel, Nat.sub_self, Nat.sub_zero, Nat.reduceAdd, Nat.reduceSub, Nat.zero_add, List.set_cons_succ, List.set_cons_zero, List.getElem?_cons_zero, List.getElem?_cons_succ, Option.some.injEq, exists_eq_left', exists_eq_left, exists_eq_right', U.bl.injEq, U.int.injEq, U.ref.injEq, U.str.injEq, atI_0, atI_1, atI_2, atI_3, atI_4, atI_5, if_true, if_false, true_and, and_true, decide_true, decide_false, Bool.not_true, Bool.not_false, reduceCtorEq, ite_true, ite_false, decide_eq_true_eq, Bool.true_eq_false, Bool.false_eq_true]
    by_cases h : n = ""
    · rw [if_pos h]
      refine ⟨_, eq_bl, ?_⟩
      have : otherM (.mk n a s v) = !decide (true = s) := by unfold otherM; simp [h]
      rw [this] at q
      exact q
    · rw [if_neg h]
      refine ⟨_, eq_bl, ?_⟩
      have : otherM (.mk n a s v) = !decide (decide (0 < (a : Int)) = s) := by unfold otherM; simp [h]
      rw [this] at q
      exact q
/-! the text of a letter -/
def kvD (d : Dc) : Key × U := (.inr d.nm, .tup (d.ty.map fun t => .str (tyS t)))
theorem val_D (ds : List Dc) (n : Str) : (valU (ds.map kvD) (.inr n)).getD (.tup []) = .tup ((tyOf ds n).map fun t => .str (tyS t)) := by
  unfold tyOf valU
  induction ds with
  | nil => rfl
  | cons d ds ih =>
    rw [List.map_cons, List.find?_cons, List.find?_cons]
    by_cases h : d.nm = n
    · simp [kvD, h]
    · have h' : ¬ (Sum.inr d.nm : Key) = .inr n := fun e => h (Sum.inr.inj e)
      simp only [kvD, h, h', decide_false] at *
      exact ih
theorem put_new {acc : List (Key × U)} {k : Key} {u : U} (h : ∀ p ∈ acc, p.1 ≠ k) : putU acc k u = acc ++ [(k, u)] := by
  unfold putU
  rw [if_neg]
  rw [Bool.not_eq_true, List.any_eq_false]
  intro p hp
  simpa using h p hp
theorem toDs_strs {g : Nat → Option PyData} : ∀ xs : List Str, toDs g (xs.map U.str) = some (xs.map PyData.str)
  | [] => rfl
  | x :: xs => by simp [toDs, toD, toDs_strs xs]
theorem in_strs {t : Str} {xs : List Str} {μ : Mem} : inU (.str t) (.tup (xs.map U.str)) μ = some (xs.any fun x => decide (x = t)) := by
  unfold inU
  simp only [dctU, seqU]
  have e : datU μ (.str t) = some (.str t) := rfl
  rw [e, toDs_strs]
  simp only
  rw [if_pos (by simp [PyData.depth])]
  congr 1
  rw [List.any_map]
  congr 1
theorem dk_by {j : IterU} {own : List Nat} {g : Tgt} {t : FT} {kk e : FE} {s : Slots} {D : Nat} {Q : U → Mem → Prop} {E : Str → Mem → Prop} (us : List U) (hj : j = .seq us) (I : Nat → Mem → Prop)
    (step : ∀ i μ (h : i < us.length), I i μ → ∃ s1, setT g us[i] (wipeU s own) = some s1 ∧ t s1 μ = .ok true μ ∧ wpE (kk s1 μ) (fun kv μ4 => wpE (e s1 μ4) (fun v μ5 => ∃ acc ky, μ5[D]? = some (.dct acc) ∧ keyU kv = some ky ∧ acc.length < lim ∧ I (i + 1) (μ5.set D (.dct (putU acc ky v)))) (fun _ _ => False)) (fun _ _ => False))
    (fin : ∀ μ, I us.length μ → Q (.ref D) μ) : ∀ (f i : Nat) (μ : Mem), us.length < f + i → i ≤ us.length → I i μ → wpE (dkGo j own g t kk e s D f i μ) Q E
  | 0, i, μ, hf, hi, h => by omega
  | f + 1, i, μ, hf, hi, h => by
    subst hj
    unfold dkGo
    rw [item_seq]
    by_cases e0 : i < us.length
    · obtain ⟨s1, e1, e2, w⟩ := step i μ e0 h
      rw [List.getElem?_eq_getElem e0]
      simp only [e1, e2]
      obtain ⟨kv, μ4, ek, w⟩ := w.get
      simp only [ek]
      obtain ⟨v, μ5, ev, w⟩ := w.get
      simp only [ev]
      obtain ⟨acc, ky, a1, a2, a3, a4⟩ := w
      simp only [a1, a2, a3, if_true]
      exact dk_by us rfl I step fin f (i + 1) _ (by omega) (by omega) a4
    · have : i = us.length := by omega
      subst this
      rw [List.getElem?_eq_none (by omega)]
      exact fin μ h
theorem w_dcK {it : FI} {own : List Nat} {g : Tgt} {t : FT} {kk e : FE} {s : Slots} {μ : Mem} {Q : U → Mem → Prop} {E : Str → Mem → Prop} : wpE (fDcK it own g t kk e s μ) Q E = wpE (it s μ) (fun j μ1 => wpE (dkGo j own g t kk e s μ1.length fuelF 0 (μ1 ++ [.dct []])) Q E) E := w_bind
def mvT3 (C : Calls) : FS :=
    (sSeq (sIf (tst (fVar 4)) (sRet (fJs [(fFmt (fVar 6)), (fC (.str "!")), (fFmt (fVar 5))] Str.empty)) sNext)
    (sSeq (sAsg (.one 7) (fDcK (iSeq (fVar 0)) [8, 9, 10] (.tup [8, 9, 10]) tAll (fVar 8) (fVar 9)))
    (sSeq (sIf (tAn (tstB (fOp uEq (fVar 3) (fC (.int 0)))) (tstB (fOp uIn (fC (.str "val")) (fGet (fVar 7) (fVar 2) (fTup aNil))))) (sRet (fJs [(fFmt (fVar 6)), (fC (.str "?")), (fFmt (fVar 5))] Str.empty)) sNext)
    (sRet (fJs [(fFmt (fVar 6)), (fC (.str "?"))] Str.empty)))))
theorem mvT_is (C : Calls) : b_move_text C = (sSeq (sIf (tstB (fOp uEq (fVar 1) (fC (.tup [(.str "!")])))) (sRet (fC (.str "!!"))) sNext)
    (sSeq (sAsg (.tup [2, 3, 4, 5]) (fVar 1))
    (sSeq (sAsg (.one 6) (fIf (tstB (fOp uEq (fVar 3) (fC (.int 0)))) (fVar 2) (fJs [(fFmt (fVar 2)), (fC (.str ".")), (fFmt (fVar 3))] Str.empty)))
    (mvT3 C)))) := rfl
theorem s_ne {a b : Str} : (tl a = tl b) = (a = b) := propext ⟨ext_tl, fun h => by rw [h]⟩
structure TextS (g : List U → Mem → Res U) : Prop where
  ap : ∀ {ds : List Dc} {m : Mv} {μ : Mem} {Q : U → Mem → Prop} {E : Str → Mem → Prop}, DOk ds → Gm ds m → (∀ μ', Fr μ μ' → Q (.str (txt ds m)) μ') → wpE (g [dsU ds, mvU m] μ) Q E
theorem text_s {C : Calls} : TextS (runDef 11 (b_move_text C)) := by
  constructor
  intro ds m μ Q E o gm q
  rw [mvT_is]
  walk_at "go"
  refine ⟨_, eq_flt, ?_⟩
  cases m with
  | flt =>
    rw [if_pos rfl]
    have : txt ds .flt = "!!" := ext_tl (by rw [show tl (txt ds .flt) = [33, 33] from rfl]; decide +kernel)
    rw [← this]
    exact q μ .refl
  | mk n a s v =>
    rw [if_neg (by simp), s_asg, w_var]
    refine ⟨_, rfl, _, rfl, ?_⟩
    simp (config := {decide := true}) only [Dg.setAll, w_run, w_geXI, w_geXP, w_lz, w_op, w_isi, Dg.wipeU, w_powI, w_intB, w_sl, w_oNone, w_oSome, w_slT, w_slF, w_ixF, w_lenF, w_abs, w_max2, w_min2, w_fdivI, w_neg, w_andE, w_orE, w_notE, w_chain, w_c, w_var, w_call, w_def, w_anil, w_acons, w_tup, w_lst, w_int, w_intB, w_lenT, w_addI, w_subI, w_modI, w_mulI, w_ltI, w_leI, w_gtI, w_geI, w_eq, w_ne, w_ixT, w_if, w_nt, w_an, w_or, w_all, w_tstB, w_tst, w_app, w_lc, w_for, w_iseqT, w_rg1, w_rev1, w_d0, Dg.eq_str, Dg.eq_int, s_seq, s_next, s_brk, s_cnt, s_expr, s_ret, s_retN, s_if, w_getE, w_items, w_keys, w_fmt, w_js0, w_js, s_asg1, s_store, s_tryAs, s_try, w_isX, s_raise, List.map_cons, List.map_nil, List.cons_append, List.nil_append, List.length_cons, List.length_nil, List.replicate_succ, List.replicate_zero, Nat.add_sub_cancel, Nat.sub_self, Nat.sub_zero, Nat.reduceAdd, Nat.reduceSub, Nat.zero_add, List.set_cons_succ, List.set_cons_zero, List.getElem?_cons_zero, List.getElem?_cons_succ, Option.some.injEq, exists_eq_left', exists_eq_left, exists_eq_right', U.bl.injEq, U.int.injEq, U.ref.injEq, U.str.injEq, atI_0, atI_1, atI_2, atI_3, atI_4, atI_5, if_true, if_false, true_and, and_true, decide_true, decide_false, Bool.not_true, Bool.not_false, reduceCtorEq, ite_true, ite_false, decide_eq_true_eq, Bool.true_eq_false, Bool.false_eq_true]
    have gm' : Gd ds n a s v := gm
    have hn4 : (tl n).length ≤ 4 := by
      rcases gm'.nm with rfl | h
      · decide
      · exact nms_of (P := fun l => l.length ≤ 4) (by decide) h
    have dv : tl (toString ((v : Nat) : Int) : Str) = [48 + v] := tl_dig (by have := gm'.v9; omega)
    have fv : fmtOk (.int ((v : Nat) : Int)) (toString ((v : Nat) : Int) : Str) := fmt_int (by have := gm'.v9; omega)
    have fin : ∀ h : Str, tl h = tl n ++ (if a = 0 then [] else [46, 48 + a]) → Dg.wpS (mvT3 C [some (dsU ds), some (mvU (.mk n a s v)), some (.str n), some (.int (a : Nat)), some (.bl s), some (.int (v : Nat)), some (.str h), none, none, none, none] μ) ⟨fun _ μ' => Q .non μ', Q, fun _ _ => False, fun _ _ => False, fun c _ μ' => E c μ'⟩ := fun h eh => by
      have hl : h.length ≤ 10 := by
        rw [TL.len_tl, eh, List.length_append]
        split <;> simp only [List.length_cons, List.length_nil] <;> omega
      have lm : ∀ x : Str, (tl x).length ≤ 20 → x.length ≤ lim := fun x hx => by rw [TL.len_tl]; exact Nat.le_trans hx (by decide)
      have te : tl Str.empty = [] := rfl
      have t1 : tl ("!" : Str) = [33] := by decide +kernel
      have t2 : tl ("?" : Str) = [63] := by decide +kernel
      have hl' : (tl h).length ≤ 10 := by rw [← TL.len_tl]; exact hl
      unfold mvT3
      walk_at "go"
      refine ⟨_, tru_b, ?_⟩
      cases s with
      | true =>
        rw [if_pos rfl]
        refine ⟨h, fmt_str (lm h (by omega)), lm _ ?_, lm _ ?_, _, fv, lm _ ?_, ?_⟩
        · rw [tl_append, te]; simp only [List.nil_append, List.length_append, List.length_cons, List.length_nil]; omega
        · rw [tl_append, tl_append, te, t1]; simp only [List.nil_append, List.length_append, List.length_cons, List.length_nil]; omega
        · rw [tl_append, tl_append, tl_append, te, t1, dv]; simp only [List.nil_append, List.length_append, List.length_cons, List.length_nil]; omega
        · have : Str.empty ++ h ++ ("!" : Str) ++ (toString ((v : Nat) : Int) : Str) = txt ds (.mk n a true v) := ext_tl (by
            rw [tl_append, tl_append, tl_append, te, t1, dv, eh]
            rw [show tl (txt ds (.mk n a true v)) = txL ds (.mk n a true v) from rfl]
            simp [txL])
          rw [this]
          exact q μ .refl
      | false =>
        rw [if_neg (by decide), w_dcK]
        walk_at "go"
        refine dk_by (ds.map dcU) rfl (fun i μ' => μ'[μ.length]? = some (.dct ((ds.take i).map kvD)) ∧ Fr μ μ') ?_ ?_ _ _ _ (by rw [List.length_map]; have := o.len; simp [fuelF]; omega) (Nat.zero_le _) ⟨get_snoc, Fr.refl.snoc⟩
        · rintro i μ1 hi ⟨c1, f1⟩
          have hi' : i < ds.length := by simpa using hi
          have ei : (ds.map dcU)[i] = .tup [.str ds[i].nm, .tup (ds[i].ty.map fun t => .str (tyS t)), .str (kS ds[i].ex)] := by simp [dcU]
          rw [ei]
          refine ⟨_, rfl, rfl, ?_⟩
          simp (config := {decide := true}) only [Dg.setAll, w_run, w_geXI, w_geXP, w_lz, w_op, w_isi, Dg.wipeU, w_powI, w_intB, w_sl, w_oNone, w_oSome, w_slT, w_slF, w_ixF, w_lenF, w_abs, w_max2, w_min2, w_fdivI, w_neg, w_andE, w_orE, w_notE, w_chain, w_c, w_var, w_call, w_def, w_anil, w_acons, w_tup, w_lst, w_int, w_intB, w_lenT, w_addI, w_subI, w_modI, w_mulI, w_ltI, w_leI, w_gtI, w_geI, w_eq, w_ne, w_ixT, w_if, w_nt, w_an, w_or, w_all, w_tstB, w_tst, w_app, w_lc, w_for, w_iseqT, w_rg1, w_rev1, w_d0, Dg.eq_str, Dg.eq_int, s_seq, s_next, s_brk, s_cnt, s_expr, s_ret, s_retN, s_if, w_getE, w_items, w_keys, w_fmt, w_js0, w_js, s_asg1, s_store, s_tryAs, s_try, w_isX, s_raise, List.map_cons, List.map_nil, List.cons_append, List.nil_append, List.length_cons, List.length_nil, List.replicate_succ, List.replicate_zero, Nat.add_sub_cancel, Nat.sub_self, Nat.sub_zero, Nat.reduceAdd, Nat.reduceSub, Nat.zero_add, List.set_cons_succ, List.set_cons_zero, List.getElem?_cons_zero, List.getElem?_cons_succ, Option.some.injEq, exists_eq_left', exists_eq_left, exists_eq_right', U.bl.injEq, U.int.injEq, U.ref.injEq, U.str.injEq, atI_0, atI_1, atI_2, atI_3, atI_4, atI_5, if_true, if_false, true_and, and_true, decide_true, decide_false, Bool.not_true, Bool.not_false, reduceCtorEq, ite_true, ite_false, decide_eq_true_eq, Bool.true_eq_false, Bool.false_eq_true]
          refine ⟨_, _, c1, rfl, by rw [List.length_map, List.length_take]; have := o.len; exact Nat.lt_of_le_of_lt (show _ ≤ 3 by omega) (by decide), ?_, f1.put (Nat.le_refl _)⟩
          rw [get_set c1, put_new, take_snoc hi', List.map_append]
          · rfl
          · intro p hp e
            obtain ⟨d, hd, rfl⟩ := List.mem_map.mp hp
            have e' : d.nm = ds[i].nm := Sum.inr.inj e
            obtain ⟨j, hj, rfl⟩ := List.getElem_of_mem hd
            rw [List.length_take] at hj
            have nd := o.nd
            have := Dg.nodup_inj nd (i := j) (j := i) (by simp; omega) (by simpa using hi') (by simp only [List.getElem_map]; rw [List.getElem_take] at e'; exact e')
            omega
        · rintro μ1 ⟨c1, f1⟩
          rw [List.length_map, List.take_length] at c1
          have y1 : ∀ μ' : Mem, Fr μ μ' → hasV ds n = true → a = 0 → ∃ y, fmtOk (.str h) y ∧ (Str.empty ++ y).length ≤ lim ∧ (Str.empty ++ y ++ Str.ofString "?").length ≤ lim ∧ ∃ y_1, fmtOk (.int ((v : Nat) : Int)) y_1 ∧ (Str.empty ++ y ++ Str.ofString "?" ++ y_1).length ≤ lim ∧ Q (U.str (Str.empty ++ y ++ Str.ofString "?" ++ y_1)) μ' := fun μ' f' hv ha => by
            refine ⟨h, fmt_str (lm h (by omega)), lm _ ?_, lm _ ?_, _, fv, lm _ ?_, ?_⟩
            · rw [tl_append, te]; simp only [List.nil_append, List.length_append, List.length_cons, List.length_nil]; omega
            · rw [tl_append, tl_append, te, t2]; simp only [List.nil_append, List.length_append, List.length_cons, List.length_nil]; omega
            · rw [tl_append, tl_append, tl_append, te, t2, dv]; simp only [List.nil_append, List.length_append, List.length_cons, List.length_nil]; omega
            · have : Str.empty ++ h ++ ("?" : Str) ++ (toString ((v : Nat) : Int) : Str) = txt ds (.mk n a false v) := ext_tl (by
                rw [tl_append, tl_append, tl_append, te, t2, dv, eh]
                rw [show tl (txt ds (.mk n a false v)) = txL ds (.mk n a false v) from rfl]
                simp [txL, ha, hv])
              rw [this]
              exact q μ' f'
          have y2 : ∀ μ' : Mem, Fr μ μ' → ¬ (a = 0 ∧ hasV ds n = true) → ∃ y, fmtOk (.str h) y ∧ (Str.empty ++ y).length ≤ lim ∧ (Str.empty ++ y ++ Str.ofString "?").length ≤ lim ∧ Q (U.str (Str.empty ++ y ++ Str.ofString "?")) μ' := fun μ' f' hv => by
            refine ⟨h, fmt_str (lm h (by omega)), lm _ ?_, lm _ ?_, ?_⟩
            · rw [tl_append, te]; simp only [List.nil_append, List.length_append, List.length_cons, List.length_nil]; omega
            · rw [tl_append, tl_append, te, t2]; simp only [List.nil_append, List.length_append, List.length_cons, List.length_nil]; omega
            · have : Str.empty ++ h ++ ("?" : Str) = txt ds (.mk n a false v) := ext_tl (by
                rw [tl_append, tl_append, te, t2, eh]
                rw [show tl (txt ds (.mk n a false v)) = txL ds (.mk n a false v) from rfl]
                have e : txL ds (.mk n a false v) = tl n ++ ((if a = 0 then [] else [46, 48 + a]) ++ (if a = 0 ∧ hasV ds n = true then [63, 48 + v] else [63])) := rfl
                rw [e, if_neg hv]
                simp)
              rw [this]
              exact q μ' f'
          by_cases ha : a = 0
          · rw [if_pos (by simp [ha])]
            refine ⟨⟨_, rd_D c1⟩, _, _, rd_D c1, rfl, ?_⟩
            rw [val_D, w_in]
            refine ⟨_, by rw [show ((tyOf ds n).map fun t => U.str (tyS t)) = ((tyOf ds n).map tyS).map U.str by rw [List.map_map]; rfl]; exact in_strs, _, rfl, ?_⟩
            have eb : (((tyOf ds n).map tyS).any fun x => decide (x = Str.ofString "val")) = hasV ds n := by
              unfold hasV
              rw [List.any_map]
              congr 1
              funext t
              exact decide_eq_decide.mpr (by rw [tyS_v])
            rw [eb]
            by_cases hv : hasV ds n = true
            · rw [if_pos hv]; exact y1 μ1 f1 hv ha
            · rw [if_neg hv]; exact y2 μ1 f1 fun z => hv z.2
          · rw [if_neg (by simp [ha])]
            exact y2 μ1 f1 fun z => ha z.1
    by_cases ha : a = 0
    · rw [if_pos (by simp [ha])]
      exact fin n (by rw [if_pos ha, List.append_nil])
    · rw [if_neg (by simp [ha])]
      have da : tl (toString ((a : Nat) : Int) : Str) = [48 + a] := tl_dig (by have := gm'.a2; omega)
      have t3 : tl ("." : Str) = [46] := by decide +kernel
      have te : tl Str.empty = [] := rfl
      have lm : ∀ x : Str, (tl x).length ≤ 20 → x.length ≤ lim := fun x hx => by rw [TL.len_tl]; exact Nat.le_trans hx (by decide)
      refine ⟨n, fmt_str (lm n (by omega)), lm _ ?_, lm _ ?_, _, fmt_int (by have := gm'.a2; omega), lm _ ?_, ?_⟩
      · rw [tl_append, te]; simp only [List.nil_append, List.length_append, List.length_cons, List.length_nil]; omega
      · rw [tl_append, tl_append, te, t3]; simp only [List.nil_append, List.length_append, List.length_cons, List.length_nil]; omega
      · rw [tl_append, tl_append, tl_append, te, t3, da]; simp only [List.nil_append, List.length_append, List.length_cons, List.length_nil]; omega
      · refine fin _ ?_
        rw [tl_append, tl_append, tl_append, te, t3, da, if_neg ha]
        simp
open TL (tl ext_tl tl_append joinL)
theorem dk_live {own : List Nat} {g : Tgt} {t : FT} {kk e : FE} {s : Slots} {D r : Nat} {Q : U → Mem → Prop} {E : Str → Mem → Prop} (us : List U) (I : Nat → Mem → Prop) (hc : ∀ i μ, I i μ → μ[r]? = some (.lst us))
    (step : ∀ i μ (h : i < us.length), I i μ → ∃ s1, setT g us[i] (wipeU s own) = some s1 ∧ t s1 μ = .ok true μ ∧ wpE (kk s1 μ) (fun kv μ4 => wpE (e s1 μ4) (fun v μ5 => ∃ acc ky, μ5[D]? = some (.dct acc) ∧ keyU kv = some ky ∧ acc.length < lim ∧ I (i + 1) (μ5.set D (.dct (putU acc ky v)))) (fun _ _ => False)) (fun _ _ => False))
    (fin : ∀ μ, I us.length μ → Q (.ref D) μ) : ∀ (f i : Nat) (μ : Mem), us.length < f + i → i ≤ us.length → I i μ → wpE (dkGo (.live r) own g t kk e s D f i μ) Q E
  | 0, i, μ, hf, hi, h => by omega
  | f + 1, i, μ, hf, hi, h => by
    unfold dkGo
    rw [item_live (hc i μ h)]
    by_cases e0 : i < us.length
    · obtain ⟨s1, e1, e2, w⟩ := step i μ e0 h
      rw [List.getElem?_eq_getElem e0]
      simp only [e1, e2]
      obtain ⟨kv, μ4, ek, w⟩ := w.get
      simp only [ek]
      obtain ⟨v, μ5, ev, w⟩ := w.get
      simp only [ev]
      obtain ⟨acc, ky, a1, a2, a3, a4⟩ := w
      simp only [a1, a2, a3, if_true]
      exact dk_live us I hc step fin f (i + 1) _ (by omega) (by omega) a4
    · have : i = us.length := by omega
      subst this
      rw [List.getElem?_eq_none (by omega)]
      exact fin μ h
theorem val_put {acc : List (Key × U)} {k k' : Key} {u : U} : valU (putU acc k u) k' = if k = k' then some u else valU acc k' := by
  unfold putU
  by_cases h : (acc.any fun kv => decide (kv.1 = k)) = true
  · rw [if_pos h]
    unfold valU
    induction acc with
    | nil => simp at h
    | cons a acc ih =>
      rw [List.map_cons, List.find?_cons, List.find?_cons]
      by_cases e1 : a.1 = k
      · by_cases e2 : k = k'
        · subst e2; simp [e1]
        · have e3 : ¬ a.1 = k' := fun e => e2 (e1.symm.trans e)
          rw [if_pos e1, if_neg e2]
          simp only [e3, decide_false]
          by_cases h2 : (acc.any fun kv => decide (kv.1 = k)) = true
          · rw [ih h2, if_neg e2]
          · have : acc.map (fun kv => if kv.1 = k then (kv.1, u) else kv) = acc := by
              rw [List.map_congr_left (g := id), List.map_id]
              intro b hb
              have hb' : ¬ b.1 = k := fun e => h2 (List.any_eq_true.mpr ⟨b, hb, by simpa using e⟩)
              simp [hb']
            rw [this]
      · have h2 : (acc.any fun kv => decide (kv.1 = k)) = true := by
          rw [List.any_cons] at h
          simpa [e1] using h
        rw [if_neg e1]
        by_cases e3 : a.1 = k'
        · have e2 : ¬ k = k' := fun e => e1 (e3.trans e.symm)
          simp [e3, e2]
        · simp only [e3, decide_false]
          exact ih h2
  · rw [if_neg h]
    unfold valU
    rw [List.find?_append]
    have hn : ∀ b ∈ acc, ¬ b.1 = k := fun b hb e => h (List.any_eq_true.mpr ⟨b, hb, by simpa using e⟩)
    by_cases e2 : k = k'
    · subst e2
      rw [if_pos rfl, List.find?_eq_none.mpr (fun b hb => by simpa using hn b hb)]
      simp
    · rw [if_neg e2]
      cases acc.find? fun kv => decide (kv.1 = k') with
      | none => simp [e2]
      | some b => rfl
theorem put_len {acc : List (Key × U)} {k : Key} {u : U} : (putU acc k u).length ≤ acc.length + 1 := by
  unfold putU
  split <;> simp
/-- the dict of letters by their texts -/
structure DictOk (ds : List Dc) (acc : List (Key × U)) (L : List Mv) : Prop where
  len : acc.length ≤ L.length
  val : ∀ m ∈ L, valU acc (.inr (txt ds m)) = some (mvU m)
  non : ∀ s : Str, (∀ m ∈ L, txt ds m ≠ s) → valU acc (.inr s) = none
theorem DictOk.snoc {ds : List Dc} {acc : List (Key × U)} {L : List Mv} {m : Mv} (h : DictOk ds acc L) (hg : ∀ x ∈ L ++ [m], Gm ds x) : DictOk ds (putU acc (.inr (txt ds m)) (mvU m)) (L ++ [m]) := by
  refine ⟨?_, fun x hx => ?_, fun s hs => ?_⟩
  · have := put_len (acc := acc) (k := .inr (txt ds m)) (u := mvU m)
    have := h.len
    rw [List.length_append]; simp only [List.length_cons, List.length_nil]; omega
  · rw [val_put]
    by_cases e : txt ds m = txt ds x
    · have : m = x := tx_inj (hg m (by simp)) (hg x hx) (mkS_inj e)
      rw [if_pos (by rw [e]), this]
    · rw [if_neg (fun q => e (Sum.inr.inj q))]
      rcases List.mem_append.mp hx with hx | hx
      · exact h.val x hx
      · rw [List.mem_singleton.mp hx] at e; exact absurd rfl e
  · rw [val_put, if_neg (fun q => hs m (by simp) (Sum.inr.inj q))]
    exact h.non s fun x hx => hs x (by simp [hx])
structure PartsOk (z : Str) (parts : List Str) : Prop where
  ne : z.length ≠ 0
  len : z.length + 2 ≤ lim
  sp : Txt.split z " " = parts
  ok : ∀ p ∈ parts, PyData.strOk p = true
def rdT2 (C : Calls) : FS :=
    (sSeq (sIf (tstB (fOp uGt (fCall bLen (aCons (fVar 4) aNil)) (fC (.int 40)))) (sRaise "BadForm" (fJs [(fC (.str "there are more than ")), (fFmt (fC (.int 40))), (fC (.str " moves"))] Str.empty)) sNext)
    (sSeq (sFor (iSeq (fVar 4)) (.one 5) (sIf (tstB (fOp uNin (fVar 5) (fVar 3))) (sRaise "BadForm" (fJs [(fFmtR (fVar 5)), (fC (.str " is not the text of a letter"))] Str.empty)) sNext))
    (sRet (fLc (iSeq (fVar 4)) [5] (.one 5) tAll (fOp ixU (fVar 3) (fVar 5))))))
theorem rdT_is (C : Calls) : b_read_play C = (sSeq (sAsg (.one 3) (fDcK (iSeq (fDef 2 (C 3) (aCons (fVar 0) (aCons (fVar 1) aNil)))) [6] (.one 6) tAll (fDef 2 (C 5) (aCons (fVar 0) (aCons (fVar 6) aNil))) (fVar 6)))
    (sSeq (sAsg (.one 4) (fIf (tst (fVar 2)) (fMtS gSplit (fVar 2) (aCons (fC (.str " ")) aNil)) (fLst aNil)))
    (rdT2 C))) := rfl
theorem in_D {d : Nat} {kus : List (Key × U)} {n : Str} {μ : Mem} (h : μ[d]? = some (.dct kus)) : inU (.str n) (.ref d) μ = some (valU kus (.inr n)).isSome := by
  have e : dctU μ (.ref d) = some kus := by simp only [dctU, h]
  unfold inU
  simp only [e, keyU]
theorem read_pre {C : Calls} (h3 : LettersS (C 3)) (h5 : TextS (C 5)) {ds : List Dc} {k : Bool} {z : Str} {parts : List Str} {μ : Mem} {Q : U → Mem → Prop} {E : Str → Mem → Prop} (o : DOk ds) (hz : (z = "" ∧ parts = []) ∨ PartsOk z parts)
    (w : ∀ acc d r μ', DictOk ds acc (letL ds k) → Fr μ μ' → μ.length ≤ r → μ'[d]? = some (.dct acc) → μ'[r]? = some (.lst (parts.map U.str)) →
      Dg.wpS (rdT2 C [some (dsU ds), some (.str (kS k)), some (.str z), some (.ref d), some (.ref r), none, none] μ') ⟨fun _ μ' => Q .non μ', Q, fun _ _ => False, fun _ _ => False, fun c _ μ' => E c μ'⟩) : wpE (runDef 7 (b_read_play C) [dsU ds, .str (kS k), .str z] μ) Q E := by
  rw [rdT_is]
  walk_at "go"
  rw [w_dcK]
  walk_at "go"
  refine h3.ap o fun r0 μ1 f1 hr1 c1 => ?_
  refine ⟨_, listAt_L c1, ?_⟩
  refine dk_live ((letL ds k).map mvU) (fun i μ' => μ'[r0]? = some (.lst ((letL ds k).map mvU)) ∧ Fr μ1 μ' ∧ ∃ acc, μ'[μ1.length]? = some (.dct acc) ∧ DictOk ds acc ((letL ds k).take i)) (fun i μ' h => h.1) ?_ ?_ _ _ _ (by rw [List.length_map]; have := let_len (k := k) o; simp only [fuelF]; omega) (Nat.zero_le _) ⟨get_snoc_lt c1, Fr.refl.snoc, _, get_snoc, ⟨Nat.zero_le _, fun m hm => by simp at hm, fun s _ => rfl⟩⟩
  · rintro i μ2 hi ⟨c2, f2, acc, ca, D⟩
    have hi' : i < (letL ds k).length := by simpa using hi
    have ei : ((letL ds k).map mvU)[i] = mvU (letL ds k)[i] := by simp
    have hg := let_gm (k := k) o
    rw [ei]
    refine ⟨_, rfl, rfl, ?_⟩
    walk_at "go"
    refine h5.ap o (hg _ (List.getElem_mem _)) fun μ3 f3 => ?_
    try walk_at "go"
    have ca3 := f3.at_ _ _ ca
    have hll := let_len (k := k) o
    refine ⟨_, _, ca3, rfl, Nat.lt_of_le_of_lt (Nat.le_trans D.len (show _ ≤ 100 by rw [List.length_take]; omega)) (by decide), ?_, (f2.trans f3).put (Nat.le_refl _), _, get_set ca3, ?_⟩
    · have := get_lt c1
      exact get_set_ne (f3.at_ _ _ c2) (by omega)
    · rw [take_snoc hi']
      exact D.snoc fun x hx => by
        rcases List.mem_append.mp hx with hx | hx
        · exact hg x (List.mem_of_mem_take hx)
        · rw [List.mem_singleton.mp hx]; exact hg _ (List.getElem_mem _)
  · rintro μ2 ⟨c2, f2, acc, ca, D⟩
    rw [List.length_map, List.take_length] at D
    try walk_at "go"
    have ff := f1.trans f2
    rcases hz with ⟨rfl, rfl⟩ | P
    · refine ⟨false, rfl, ?_⟩
      rw [if_neg (by decide)]
      exact w acc μ1.length μ2.length (μ2 ++ [.lst []]) D ff.snoc ff.le (get_snoc_lt ca) get_snoc
    · refine ⟨true, ?_, ?_⟩
      · unfold truU
        simp only
        rw [if_pos (by have := P.len; omega)]
        have : (z.length : Int) ≠ 0 := by have := P.ne; omega
        simpa using this
      · rw [if_pos rfl, w_mtS]
        walk_at "go"
        rw [w_splitS P.sp (by decide) P.len P.ok]
        exact w acc μ1.length μ2.length _ D ff.snoc ff.le (get_snoc_lt ca) get_snoc
/-! what read_play says -/
structure ReadS (g : List U → Mem → Res U) : Prop where
  nil : ∀ {ds : List Dc} {k : Bool} {μ : Mem} {Q : U → Mem → Prop} {E : Str → Mem → Prop}, DOk ds → (∀ r μ', Fr μ μ' → μ.length ≤ r → μ'[r]? = some (.lst []) → Q (.ref r) μ') → wpE (g [dsU ds, .str (kS k), .str ""] μ) Q E
  big : ∀ {ds : List Dc} {k : Bool} {z : Str} {parts : List Str} {μ : Mem} {Q : U → Mem → Prop} {E : Str → Mem → Prop}, DOk ds → PartsOk z parts → 40 < parts.length → (∀ μ', Fr μ μ' → E "BadForm" μ') → wpE (g [dsU ds, .str (kS k), .str z] μ) Q E
  yes : ∀ {ds : List Dc} {k : Bool} {z : Str} {ms : List Mv} {μ : Mem} {Q : U → Mem → Prop} {E : Str → Mem → Prop}, DOk ds → PartsOk z (ms.map (txt ds)) → ms.length ≤ 40 → (∀ m ∈ ms, m ∈ letL ds k) → (∀ r μ', Fr μ μ' → μ.length ≤ r → μ'[r]? = some (.lst (ms.map mvU)) → Q (.ref r) μ') → wpE (g [dsU ds, .str (kS k), .str z] μ) Q E
  bad : ∀ {ds : List Dc} {k : Bool} {z : Str} {parts : List Str} {μ : Mem} {Q : U → Mem → Prop} {E : Str → Mem → Prop}, DOk ds → PartsOk z parts → parts.length ≤ 41 → (∃ p ∈ parts, p ∈ BAD) → (∀ p ∈ parts, p ∈ BAD ∨ ∃ m ∈ letL ds k, p = txt ds m) → (∀ μ', Fr μ μ' → E "BadForm" μ') → wpE (g [dsU ds, .str (kS k), .str z] μ) Q E
theorem lim_of {x : Str} (h : x.length ≤ 1000) : x.length ≤ lim := Nat.le_trans h (by decide)
theorem raise_big {P : Prop} (h : P) : ∃ y, fmtOk (U.int 40) y ∧ (Str.empty ++ Str.ofString "there are more than " ++ y).length ≤ lim ∧ (Str.empty ++ Str.ofString "there are more than " ++ y ++ Str.ofString " moves").length ≤ lim ∧ P :=
  ⟨_, fmt_int (by decide), by decide +kernel, by decide +kernel, h⟩
theorem bad_repr {p : Str} (h : p ∈ BAD) : (reprText p).length ≤ 100 ∧ PyData.strOk (reprText p) = true := by
  have : ∀ p ∈ BAD, (reprText p).length ≤ 100 ∧ PyData.strOk (reprText p) = true := by decide +kernel
  exact this p h
theorem read_s {C : Calls} (h3 : LettersS (C 3)) (h5 : TextS (C 5)) : ReadS (runDef 7 (b_read_play C)) := by
  constructor
  · intro ds k μ Q E o q
    refine read_pre h3 h5 (k := k) (parts := []) o (.inl ⟨rfl, rfl⟩) fun acc d r μ1 D f1 hr ca cr => ?_
    unfold rdT2
    walk_at "go"
    rw [w_lenL cr]
    try walk_at "go"
    refine ⟨_, listAt_L cr, ?_⟩
    refine for_live [] (fun i s' μ' => μ' = μ1 ∧ s' = [some (dsU ds), some (.str (kS k)), some (.str ""), some (.ref d), some (.ref r), none, none]) (by decide) ⟨rfl, rfl⟩ (fun i s' μ' h => by rw [h.1]; exact cr) (fun i s' μ' h _ => absurd h (by simp)) ?_
    rintro s' μ' ⟨rfl, rfl⟩
    walk_at "go"
    refine ⟨_, listAt_L cr, ?_⟩
    refine lc_mapL cr id (by decide) (fun i μ' h _ => absurd h (by simp)) fun μ2 f2 c2 => ?_
    exact q _ μ2 (f1.trans f2) f1.le c2
  · intro ds k z parts μ Q E o P hb q
    refine read_pre h3 h5 (k := k) o (.inr P) fun acc d r μ1 D f1 hr ca cr => ?_
    unfold rdT2
    walk_at "go"
    rw [w_lenL cr]
    try walk_at "go"
    rw [List.length_map, if_pos (by omega)]
    exact raise_big (q μ1 f1)
  · intro ds k z ms μ Q E o P hb hm q
    refine read_pre h3 h5 (k := k) o (.inr P) fun acc d r μ1 D f1 hr ca cr => ?_
    unfold rdT2
    walk_at "go"
    rw [w_lenL cr]
    try walk_at "go"
    rw [List.length_map, List.length_map, if_neg (by omega)]
    refine ⟨_, listAt_L cr, ?_⟩
    refine for_live ((ms.map (txt ds)).map U.str) (fun i s' μ' => μ' = μ1 ∧ ∃ x5, s' = [some (dsU ds), some (.str (kS k)), some (.str z), some (.ref d), some (.ref r), x5, none]) (by rw [List.length_map, List.length_map]; omega) ⟨rfl, _, rfl⟩ (fun i s' μ' h => by rw [h.1]; exact cr) ?_ ?_
    · rintro i s' μ' hi ⟨rfl, x5, rfl⟩
      have hi' : i < ms.length := by simpa using hi
      have ei : ((ms.map (txt ds)).map U.str)[i] = .str (txt ds ms[i]) := by simp
      rw [ei]
      refine ⟨_, rfl, ?_⟩
      walk_at "go"
      rw [w_nin, in_D ca, D.val _ (hm _ (List.getElem_mem hi'))]
      refine ⟨_, rfl, false, rfl, ?_⟩
      rw [if_neg (by decide)]
      exact ⟨rfl, _, rfl⟩
    · rintro s' μ' ⟨rfl, x5, rfl⟩
      walk_at "go"
      refine ⟨_, listAt_L cr, ?_⟩
      refine lc_mapL cr (fun u => match u with | .str p => (valU acc (.inr p)).getD .non | _ => .non) (by rw [List.length_map, List.length_map]; omega) (fun i μ2 hi f2 => ?_) fun μ2 f2 c2 => ?_
      · have hi' : i < ms.length := by simpa using hi
        have ei : ((ms.map (txt ds)).map U.str)[i] = .str (txt ds ms[i]) := by simp
        rw [ei]
        refine ⟨_, rfl, ?_⟩
        walk_at "go"
        rw [w_ixD (f2.at_ _ _ ca)]
        have hv := D.val _ (hm _ (List.getElem_mem hi'))
        exact ⟨_, hv, by simp only [hv, Option.getD_some], .refl⟩
      · refine q _ μ2 (f1.trans f2) f1.le ?_
        rw [c2, List.map_map, List.map_map]
        congr 2
        refine List.map_congr_left fun m hmm => ?_
        simp only [Function.comp, D.val _ (hm _ hmm), Option.getD_some]
  · intro ds k z parts μ Q E o P hb hx ha q
    refine read_pre h3 h5 (k := k) o (.inr P) fun acc d r μ1 D f1 hr ca cr => ?_
    unfold rdT2
    walk_at "go"
    rw [w_lenL cr]
    try walk_at "go"
    by_cases h40 : 40 < parts.length
    · rw [List.length_map, if_pos (by omega)]
      exact raise_big (q μ1 f1)
    rw [List.length_map, if_neg (by omega)]
    refine ⟨_, listAt_L cr, ?_⟩
    refine for_live (parts.map U.str) (fun i s' μ' => μ' = μ1 ∧ (∀ p ∈ parts.take i, p ∉ BAD) ∧ ∃ x5, s' = [some (dsU ds), some (.str (kS k)), some (.str z), some (.ref d), some (.ref r), x5, none]) (by rw [List.length_map]; omega) ⟨rfl, fun p hp => by simp at hp, _, rfl⟩ (fun i s' μ' h => by rw [h.1]; exact cr) ?_ ?_
    · rintro i s' μ' hi ⟨rfl, nb, x5, rfl⟩
      have hi' : i < parts.length := by simpa using hi
      have ei : (parts.map U.str)[i] = .str parts[i] := by simp
      rw [ei]
      refine ⟨_, rfl, ?_⟩
      walk_at "go"
      rw [w_nin, in_D ca]
      by_cases hb2 : parts[i] ∈ BAD
      · rw [D.non _ (fun m hmm e => bad_not o (let_gm o m hmm) (e ▸ hb2))]
        refine ⟨_, rfl, true, rfl, ?_⟩
        rw [if_pos rfl]
        obtain ⟨h1, h2⟩ := bad_repr hb2
        have e0 : Str.empty.length = 0 := rfl
        have e1 : (" is not the text of a letter" : Str).length ≤ 100 := by decide +kernel
        rw [w_fmtR, w_var]
        exact ⟨_, rfl, _, rfl, ⟨lim_of (by omega), h2⟩, _, rfl, lim_of (by rw [len_app]; omega), lim_of (by rw [len_app, len_app]; omega), q _ f1⟩
      · obtain ⟨m, hmm, e⟩ := (ha _ (List.getElem_mem hi')).resolve_left hb2
        rw [e, D.val _ hmm]
        refine ⟨_, rfl, false, rfl, ?_⟩
        rw [if_neg (by decide)]
        refine ⟨rfl, fun p hp => ?_, _, rfl⟩
        rw [take_snoc hi'] at hp
        rcases List.mem_append.mp hp with hp | hp
        · exact nb p hp
        · rw [List.mem_singleton.mp hp]; exact hb2
    · rintro s' μ' ⟨rfl, nb, x5, rfl⟩
      rw [List.length_map, List.take_length] at nb
      obtain ⟨p, hp, hpb⟩ := hx
      exact absurd hpb (nb p hp)
open TL (tl ext_tl tl_append joinL)
structure CellS (g : List U → Mem → Res U) : Prop where
  ap : ∀ {ns : List Int} {k : Nat} {μ : Mem} {Q : U → Mem → Prop} {E : Str → Mem → Prop}, (∀ x : Int, Q (.int x) μ) → wpE (g [.frl (ns.map U.int), .int (k : Nat)] μ) Q E
theorem cell_s {C : Calls} : CellS (runDef 2 (b__law_cell C)) := by
  constructor
  intro ns k μ Q E q
  unfold b__law_cell
  walk_at "go"
  rw [List.length_map]
  by_cases h : (k : Int) < ((ns.length : Nat) : Int)
  · rw [if_pos h]
    have hk : k < ns.length := by omega
    refine ⟨.int ns[k], by rw [Dg.atI_nat, List.getElem?_map, List.getElem?_eq_getElem hk]; rfl, q _⟩
  · rw [if_neg h]
    exact q 0
structure NumsS (g : List U → Mem → Res U) : Prop where
  ap : ∀ {c : Int} {k many : Nat} {μ : Mem} {Q : U → Mem → Prop} {E : Str → Mem → Prop}, k ≤ 100 → many ≤ 100 → (∀ (ns : List Nat) r μ', ns.length = many → (∀ x ∈ ns, x < 1000) → Fr μ μ' → μ.length ≤ r → μ'[r]? = some (.lst (ns.map fun (x : Nat) => U.int (x : Int))) → Q (.ref r) μ') → wpE (g [.int c, .int (k : Nat), .int (many : Nat)] μ) Q E
theorem fmod_nat {x m : Int} (hm : 0 < m) : ∃ n : Nat, x.fmod m = (n : Int) ∧ (n : Int) < m := by
  obtain ⟨a, b⟩ := Dg.fmod_in (x := x) hm
  obtain ⟨n, e⟩ := Int.eq_ofNat_of_zero_le a
  exact ⟨n, e, by omega⟩
theorem nums_s {C : Calls} : NumsS (runDef 8 (b__law_numbers C)) := by
  constructor
  intro c k many μ Q E hk hm q
  unfold b__law_numbers
  walk_at "go"
  by_cases hc : (10 : Int) ^ (18 : Int).toNat ≤ c
  · rw [if_pos hc]
    refine ⟨by simp [okR]; omega, ?_⟩
    refine for_rng many (fun i s' μ' => ∃ (ns : List Nat) (rest : Int) (x5 : Option U), ns.length = i ∧ (∀ x ∈ ns, x < 1000) ∧ μ'[μ.length]? = some (.lst (ns.map fun (x : Nat) => U.int (x : Int))) ∧ Fr μ μ' ∧ s' = [some (.int c), some (.int (k : Nat)), some (.int (many : Nat)), some (.ref μ.length), some (.int rest), x5, none, none]) (by simp) (by omega) ⟨[], c, _, rfl, by simp, get_snoc, Fr.refl.snoc, rfl⟩ ?_ ?_
    · rintro i s' μ1 hi ⟨ns, rest, x5, l1, b1, c1, f1, rfl⟩
      refine ⟨_, rfl, ?_⟩
      walk_at "go"
      refine ⟨_, lstU_L c1, ?_⟩
      obtain ⟨n, e, lt⟩ := fmod_nat (x := rest) (m := 1000) (by decide)
      rw [e, w_append c1 (by rw [List.length_map]; exact Nat.lt_of_le_of_lt (show _ ≤ 100 by omega) (by decide))]
      refine ⟨ns ++ [n], _, _, by simp; omega, fun x hx => ?_, ?_, f1.put (Nat.le_refl _), rfl⟩
      · rcases List.mem_append.mp hx with h | h
        · exact b1 x h
        · rw [List.mem_singleton.mp h]; omega
      · rw [get_set c1, List.map_append]; rfl
    · rintro s' μ1 ⟨ns, rest, x5, l1, b1, c1, f1, rfl⟩
      walk_at "go"
      exact q ns _ _ l1 b1 f1 (Nat.le_refl _) c1
  · rw [if_neg hc]
    refine ⟨by simp [big64], by simp [big64], by simp [okR]; omega, ?_⟩
    obtain ⟨m0, e0, lt0⟩ := fmod_nat (x := c * 48271 + (k : Int) * 69621 + 11) (m := 2147483647) (by decide)
    rw [e0]
    refine for_rng many (fun i s' μ' => ∃ (ns : List Nat) (m : Nat) (x5 x7 : Option U), ns.length = i ∧ (m : Int) < 2147483647 ∧ (∀ x ∈ ns, x < 1000) ∧ μ'[μ.length]? = some (.lst (ns.map fun (x : Nat) => U.int (x : Int))) ∧ Fr μ μ' ∧ s' = [some (.int c), some (.int (k : Nat)), some (.int (many : Nat)), some (.ref μ.length), none, x5, some (.int (m : Nat)), x7]) (by simp) (by omega) ⟨[], m0, _, _, rfl, lt0, by simp, get_snoc, Fr.refl.snoc, rfl⟩ ?_ ?_
    · rintro i s' μ1 hi ⟨ns, m, x5, x7, l1, hm1, b1, c1, f1, rfl⟩
      refine ⟨_, rfl, ?_⟩
      walk_at "go"
      obtain ⟨m2, e2, lt2⟩ := fmod_nat (x := (m : Int) * 16807 + (i : Int) * 7919 + 13) (m := 2147483647) (by decide)
      rw [e2]
      refine ⟨by simp [big64], by simp [big64], by simp [big64]; omega, by simp [big64], ?_⟩
      obtain ⟨n, e, lt⟩ := fmod_nat (x := (((m2 : Int) * (m2 : Int) + (k : Int) * 31 + (i : Int)).fmod 1000000007).fdiv 101) (m := 1000) (by decide)
      refine ⟨_, lstU_L c1, ?_⟩
      rw [e, w_append c1 (by rw [List.length_map]; exact Nat.lt_of_le_of_lt (show _ ≤ 100 by omega) (by decide))]
      refine ⟨ns ++ [n], m2, _, _, by simp; omega, lt2, fun x hx => ?_, ?_, f1.put (Nat.le_refl _), rfl⟩
      · rcases List.mem_append.mp hx with h | h
        · exact b1 x h
        · rw [List.mem_singleton.mp h]; omega
      · rw [get_set c1, List.map_append]; rfl
    · rintro s' μ1 ⟨ns, m, x5, x7, l1, hm1, b1, c1, f1, rfl⟩
      walk_at "go"
      exact q ns _ _ l1 b1 f1 (Nat.le_refl _) c1
/-! declarations -/
theorem w_sortedS {r : Nat} {ys : List Str} {μ : Mem} {Q : U → Mem → Prop} {E : Str → Mem → Prop} (h : μ[r]? = some (.lst (ys.map U.str))) (hl : ys.length < 64) : wpE (bSortedX [.ref r] μ) Q E = Q (.ref μ.length) (μ ++ [.lst ((sortS ys).map U.str)]) := by
  have : bSortedX [.ref r] μ = .ok (.ref μ.length) (μ ++ [.lst ((sortS ys).map U.str)]) := by
    unfold bSortedX
    simp only [lstU_L h]
    cases ys with
    | nil => rfl
    | cons y ys =>
      have : prsU ((y :: ys).map U.str) = none := rfl
      rw [this]
      simp only
      unfold bSorted
      simp only [h, lstU_L h, strsU_map, hl, if_true]
  rw [this]; rfl
theorem leS_anti {x y : Str} (h1 : leS x y) (h2 : leS y x) : x = y := by
  have := uniqueS (List.Perm.swap y x []) (by simp [h1, h2]) (by simp [h1, h2])
  exact (List.cons.inj this).1
structure DeclsS (g : List U → Mem → Res U) : Prop where
  ap : ∀ {ns : List Nat} {r : Nat} {μ : Mem} {Q : U → Mem → Prop} {E : Str → Mem → Prop}, ns.length = 10 → μ[r]? = some (.lst (ns.map fun (x : Nat) => U.int (x : Int))) → (∀ ds μ', DOk ds → Fr μ μ' → Q (dsU ds) μ') → wpE (g [.ref r] μ) Q E
theorem ns_at {ns : List Nat} {μ : Mem} {r : Nat} (h : μ[r]? = some (.lst (ns.map fun (x : Nat) => U.int (x : Int)))) {i : Nat} (hi : i < ns.length) {Q : U → Mem → Prop} {E : Str → Mem → Prop} : wpE (ixU (.ref r) (.int (i : Int)) μ) Q E = Q (.int ((ns[i] : Nat) : Int)) μ := by
  rw [w_ixL h, Dg.atI_nat, List.getElem?_map, List.getElem?_eq_getElem hi]
  simp
theorem rdN {ns : List Nat} {μ : Mem} {r : Nat} (i : Nat) (hi : i < ns.length) (h : μ[r]? = some (.lst (ns.map fun (x : Nat) => U.int (x : Int)))) {Q : U → Mem → Prop} {E : Str → Mem → Prop} (q : Q (.int ((ns[i] : Nat) : Int)) μ) : wpE (ixU (.ref r) (.int (i : Int)) μ) Q E := by
  rw [ns_at h hi]; exact q
theorem rdI {ns : List Nat} {μ : Mem} {r : Nat} {i : Int} (h0 : 0 ≤ i) (hi : i < (ns.length : Nat)) (h : μ[r]? = some (.lst (ns.map fun (x : Nat) => U.int (x : Int)))) {Q : U → Mem → Prop} {E : Str → Mem → Prop} (q : ∀ x : Nat, x ∈ ns → Q (.int (x : Int)) μ) : wpE (ixU (.ref r) (.int i) μ) Q E := by
  obtain ⟨n, rfl⟩ := Int.eq_ofNat_of_zero_le h0
  have hi' : n < ns.length := by omega
  exact rdN n hi' h (q _ (List.getElem_mem _))
/-- the item of a list at a place that is in it -/
theorem rdU {us : List U} {μ : Mem} {r : Nat} {i : Int} (h0 : 0 ≤ i) (hi : i < (us.length : Nat)) (h : μ[r]? = some (.lst us)) {Q : U → Mem → Prop} {E : Str → Mem → Prop} (q : ∀ u ∈ us, Q u μ) : wpE (ixU (.ref r) (.int i) μ) Q E := by
  obtain ⟨n, rfl⟩ := Int.eq_ofNat_of_zero_le h0
  have hi' : n < us.length := by omega
  rw [w_ixL h, Dg.atI_nat]
  exact ⟨us[n], List.getElem?_eq_getElem hi', q _ (List.getElem_mem _)⟩
def dcB (C : Calls) : FS :=
    (sSeq (sAsg (.one 5) (fLc (iRg1 (fOp uMod (fOp uFdiv (fCall bInt (aCons (fOp ixU (fVar 0) (fVar 4)) aNil)) (fC (.int 6))) (fC (.int 3)))) [6] (.one 6) tAll (fOp ixU (fLst (aCons (fC (.str "com")) (aCons (fC (.str "exp")) (aCons (fC (.str "val")) aNil)))) (fOp uMod (fCall bInt (aCons (fOp ixU (fVar 0) (fOp uAdd (fOp uAdd (fC (.int 3)) (fOp uMul (fC (.int 2)) (fCall bLen (aCons (fVar 3) aNil)))) (fVar 6))) aNil)) (fC (.int 3))))))
    (sExpr (fMtL gAppend (fVar 3) (aCons (fTup (aCons (fOp ixU (fVar 2) (fVar 4)) (aCons (fCall bTuple (aCons (fVar 5) aNil)) (aCons (fOp ixU (fLst (aCons (fC (.str "com")) (aCons (fC (.str "exp")) aNil))) (fOp uMod (fOp uFdiv (fCall bInt (aCons (fOp ixU (fVar 0) (fVar 4)) aNil)) (fC (.int 18))) (fC (.int 2)))) aNil)))) aNil))))
def dcT2 (C : Calls) : FS :=
    (sSeq (sAsg (.one 3) (fLst aNil))
    (sSeq (sFor (iRg1 (fCall bLen (aCons (fVar 2) aNil))) (.one 4) (sIf (tOr' (tstB (fOp uEq (fVar 4) (fC (.int 0)))) (tstB (fOp uNe (fOp ixU (fVar 2) (fVar 4)) (fOp ixU (fVar 2) (fOp uSub (fVar 4) (fC (.int 1))))))) (dcB C) sNext))
    (sRet (fCall bTuple (aCons (fVar 3) aNil)))))
theorem dcT_is (C : Calls) : b__law_decls C = (sSeq (sAsg (.one 1) (fLst (aCons (fC (.str "a")) (aCons (fC (.str "f")) (aCons (fC (.str "fa")) (aCons (fC (.str "zzzz")) (aCons (fC (.str "b")) (aCons (fC (.str "hole")) aNil))))))))
    (sSeq (sAsg (.one 2) (fCall bSortedX (aCons (fLc (iRg1 (fOp uMod (fCall bInt (aCons (fOp ixU (fVar 0) (fC (.int 9))) aNil)) (fC (.int 4)))) [4] (.one 4) tAll (fOp ixU (fVar 1) (fOp uMod (fCall bInt (aCons (fOp ixU (fVar 0) (fVar 4)) aNil)) (fC (.int 6))))) aNil)))
    (dcT2 C))) := rfl
theorem body_s {C : Calls} {r nm rc d i : Nat} {x5 x6 : Option U} {ns : List Nat} {ch : List Str} {ds : List Dc} {μ0 μ : Mem} {D : Dn} (hn : ns.length = 10) (hr : μ[r]? = some (.lst (ns.map fun (x : Nat) => U.int (x : Int)))) (hc : μ[rc]? = some (.lst (ch.map U.str))) (hi : i < ch.length) (hch : ch.length ≤ 3) (hd : μ[d]? = some (.lst (ds.map dcU))) (hl : ds.length ≤ 2)
    (h0 : μ0.length ≤ d) (f0 : Fr μ0 μ) (q : ∀ (ty : List Ty) (ex : Bool) (x5 x6 : Option U) (μ' : Mem), ty.length ≤ 2 → Fr μ0 μ' → μ'[d]? = some (.lst ((ds ++ [Dc.mk ch[i] ty ex]).map dcU)) → D.nx [some (.ref r), some (.ref nm), some (.ref rc), some (.ref d), some (.int (i : Nat)), x5, x6] μ') :
    Dg.wpS (dcB C [some (.ref r), some (.ref nm), some (.ref rc), some (.ref d), some (.int (i : Nat)), x5, x6] μ) D := by
  unfold dcB
  walk_at "go"
  refine rdN i (by omega) hr ?_
  walk_at "go"
  obtain ⟨m, em, lm⟩ := fmod_nat (x := (((ns[i]'(by omega) : Nat) : Int)).fdiv 6) (m := 3) (by decide)
  rw [em]
  refine ⟨by simp [okR]; omega, ?_⟩
  refine lc_rng m (fun j μ' => Fr μ μ' ∧ ∃ ty : List Ty, ty.length = j ∧ μ'[μ.length]? = some (.lst (ty.map fun t => U.str (tyS t)))) (by simp) (by omega) ⟨Fr.refl.snoc, [], rfl, get_snoc⟩ ?_ ?_
  · rintro j μ2 hj ⟨f2, ty, lt, c2⟩
    refine ⟨_, rfl, ?_⟩
    walk_at "go"
    have f3 : Fr μ (μ2 ++ [Cell.lst [U.str "com", U.str "exp", U.str "val"]]) := f2.snoc
    have c3 := get_snoc_lt (c := .lst [U.str "com", U.str "exp", U.str "val"]) c2
    have cl : (μ2 ++ [Cell.lst [U.str "com", U.str "exp", U.str "val"]])[μ2.length]? = some (.lst ([Ty.c, .e, .v].map fun t => U.str (tyS t))) := get_snoc
    generalize (μ2 ++ [Cell.lst [U.str "com", U.str "exp", U.str "val"]]) = μ3 at *
    rw [w_lenL (f3.at_ _ _ hd)]
    rw [List.length_map]
    refine rdI (by omega) (by omega) (f3.at_ _ _ hr) fun x hx => ?_
    walk_at "go"
    obtain ⟨a1, a2⟩ := Dg.fmod_in (x := ((x : Nat) : Int)) (m := 3) (by decide)
    refine rdU a1 (us := [Ty.c, .e, .v].map fun t => U.str (tyS t)) a2 cl fun u hu => ?_
    obtain ⟨y, hy, rfl⟩ := List.mem_map.mp hu
    refine ⟨_, c3, by rw [List.length_map]; exact Nat.lt_of_le_of_lt (show _ ≤ 100 by omega) (by decide), f3.put (Nat.le_refl _), ty ++ [y], by simp; omega, ?_⟩
    rw [get_set c3, List.map_append]; rfl
  · rintro μ2 ⟨f2, ty, lt, c2⟩
    refine ⟨_, lstU_L (f2.at_ _ _ hd), ?_⟩
    rw [w_ixL (f2.at_ _ _ hc), Dg.atI_nat]
    refine ⟨.str ch[i], by rw [List.getElem?_map, List.getElem?_eq_getElem hi]; rfl, ?_⟩
    rw [w_tupleL c2]
    try walk_at "go"
    have f3 : Fr μ (μ2 ++ [Cell.lst [U.str "com", U.str "exp"]]) := f2.snoc
    have cl : (μ2 ++ [Cell.lst [U.str "com", U.str "exp"]])[μ2.length]? = some (.lst ([false, true].map fun t => U.str (kS t))) := get_snoc
    generalize (μ2 ++ [Cell.lst [U.str "com", U.str "exp"]]) = μ3 at *
    refine rdN i (by omega) (f3.at_ _ _ hr) ?_
    walk_at "go"
    obtain ⟨a1, a2⟩ := Dg.fmod_in (x := (((ns[i]'(by omega) : Nat) : Int)).fdiv 18) (m := 2) (by decide)
    refine rdU a1 (us := [false, true].map fun t => U.str (kS t)) a2 cl fun u hu => ?_
    obtain ⟨y, hy, rfl⟩ := List.mem_map.mp hu
    have cd := f3.at_ _ _ hd
    rw [w_append cd (by rw [List.length_map]; exact Nat.lt_of_le_of_lt (show _ ≤ 100 by omega) (by decide))]
    refine q ty y _ _ _ (by omega) ((f0.trans f3).put h0) ?_
    rw [get_set cd, List.map_append]
    rfl
theorem decls_s {C : Calls} : DeclsS (runDef 7 (b__law_decls C)) := by
  constructor
  intro ns r μ Q E hn hr q
  rw [dcT_is]
  walk_at "go"
  have hr1 := get_snoc_lt (c := .lst [U.str "a", U.str "f", U.str "fa", U.str "zzzz", U.str "b", U.str "hole"]) hr
  have cn : (μ ++ [Cell.lst [U.str "a", U.str "f", U.str "fa", U.str "zzzz", U.str "b", U.str "hole"]])[μ.length]? = some (.lst (NMS.map U.str)) := get_snoc
  have f1 : Fr μ (μ ++ [Cell.lst [U.str "a", U.str "f", U.str "fa", U.str "zzzz", U.str "b", U.str "hole"]]) := Fr.refl.snoc
  generalize (μ ++ [Cell.lst [U.str "a", U.str "f", U.str "fa", U.str "zzzz", U.str "b", U.str "hole"]]) = μ1 at *
  refine rdN 9 (by omega) hr1 ?_
  walk_at "go"
  obtain ⟨m, em, lm⟩ := fmod_nat (x := ((ns[9] : Nat) : Int)) (m := 4) (by decide)
  rw [em]
  refine ⟨by simp [okR]; omega, ?_⟩
  refine lc_rng m (fun i μ' => Fr μ1 μ' ∧ ∃ ys : List Str, ys.length = i ∧ (∀ y ∈ ys, y ∈ NMS) ∧ μ'[μ1.length]? = some (.lst (ys.map U.str))) (by simp) (by omega) ⟨Fr.refl.snoc, [], rfl, by simp, get_snoc⟩ ?_ ?_
  · rintro i μ2 hi ⟨f2, ys, ly, my, c2⟩
    refine ⟨_, rfl, ?_⟩
    walk_at "go"
    refine rdN i (by omega) (f2.at_ _ _ hr1) ?_
    walk_at "go"
    obtain ⟨a1, a2⟩ := Dg.fmod_in (x := ((ns[i] : Nat) : Int)) (m := 6) (by decide)
    refine rdU (us := NMS.map U.str) a1 a2 (f2.at_ _ _ cn) fun u hu => ?_
    obtain ⟨y, hy, rfl⟩ := List.mem_map.mp hu
    refine ⟨_, c2, by rw [List.length_map]; exact Nat.lt_of_le_of_lt (show _ ≤ 100 by omega) (by decide), f2.put (Nat.le_refl _), ys ++ [y], by simp; omega, fun z hz => ?_, ?_⟩
    · rcases List.mem_append.mp hz with h | h
      · exact my z h
      · rw [List.mem_singleton.mp h]; exact hy
    · rw [get_set c2, List.map_append]; rfl
  · rintro μ2 ⟨f2, ys, ly, my, c2⟩
    rw [w_sortedS c2 (by omega)]
    try walk_at "go"
    have hr2 := get_snoc_lt (c := .lst ((sortS ys).map U.str)) (f2.at_ _ _ hr1)
    have cs : (μ2 ++ [Cell.lst ((sortS ys).map U.str)])[μ2.length]? = some (.lst ((sortS ys).map U.str)) := get_snoc
    have f3 : Fr μ (μ2 ++ [Cell.lst ((sortS ys).map U.str)]) := (f1.trans f2).snoc
    have l2 : (sortS ys).length = m := by rw [(sortS_perm ys).length_eq, ly]
    have m2 : ∀ y ∈ sortS ys, y ∈ NMS := fun y hy => my y ((sortS_perm ys).mem_iff.mp hy)
    have so := sortS_sorted ys
    generalize sortS ys = ch at *
    generalize μ2.length = rc at *
    generalize (μ2 ++ [Cell.lst (ch.map U.str)]) = μ3 at *
    unfold dcT2
    walk_at "go"
    have cs3 := get_snoc_lt (c := .lst []) cs
    rw [w_lenL cs3]
    try walk_at "go"
    rw [List.length_map]
    refine ⟨by simp [okR]; omega, ?_⟩
    refine for_rng ch.length (fun i s' μ' => Fr μ3 μ' ∧ (∃ x4 x5 x6, s' = [some (.ref r), some (.ref μ.length), some (.ref rc), some (.ref μ3.length), x4, x5, x6]) ∧ ∃ ds : List Dc, μ'[μ3.length]? = some (.lst (ds.map dcU)) ∧ (ds.map (·.nm)).Nodup ∧ (∀ d ∈ ds, d.nm ∈ ch.take i ∧ d.ty.length ≤ 2) ∧ ds.length ≤ i) (by simp) (by omega) ⟨Fr.refl.snoc, ⟨_, _, _, rfl⟩, [], get_snoc, by simp, by simp, by simp⟩ ?_ ?_
    · rintro i s' μ4 hi ⟨f4, ⟨x4, x5, x6, rfl⟩, ds, c4, nd, md, ld⟩
      refine ⟨_, rfl, ?_⟩
      have cs4 := f4.at_ _ _ cs
      have hr4 := f4.at_ _ _ hr2
      walk_at "go"
      have ech : ∀ (j : Nat) (hj : j < ch.length), ∃ u, atI (ch.map U.str) (j : Int) = some u ∧ u = .str ch[j] := fun j hj => ⟨_, by rw [Dg.atI_nat, List.getElem?_map, List.getElem?_eq_getElem hj]; rfl, rfl⟩
      have body : ∀ (D : Dn) x5 x6, D.nx = (fun s' μ' => Fr μ3 μ' ∧ (∃ x4 x5 x6, s' = [some (.ref r), some (.ref μ.length), some (.ref rc), some (.ref μ3.length), x4, x5, x6]) ∧ ∃ ds : List Dc, μ'[μ3.length]? = some (.lst (ds.map dcU)) ∧ (ds.map (·.nm)).Nodup ∧ (∀ d ∈ ds, d.nm ∈ ch.take (i + 1) ∧ d.ty.length ≤ 2) ∧ ds.length ≤ i + 1) → (∀ d ∈ ds, d.nm ≠ ch[i]) → Dg.wpS (dcB C [some (.ref r), some (.ref μ.length), some (.ref rc), some (.ref μ3.length), some (.int (i : Nat)), x5, x6] μ4) D := fun D x5 x6 hD hne => body_s (μ0 := μ3) (ds := ds) (ch := ch) (i := i) hn hr4 cs4 hi (by omega) c4 (by omega) (Nat.le_refl _) f4 fun ty ex x5 x6 μ' ht f' c' => by
        rw [hD]
        refine ⟨f', ⟨_, _, _, rfl⟩, ds ++ [⟨ch[i], ty, ex⟩], c', ?_, fun d hd => ?_, by simp; omega⟩
        · rw [List.map_append, List.nodup_append]
          refine ⟨nd, by simp, fun a ha b hb => ?_⟩
          simp only [List.map_cons, List.map_nil, List.mem_singleton] at hb
          subst hb
          obtain ⟨d, hd, rfl⟩ := List.mem_map.mp ha
          exact hne d hd
        · rw [take_snoc hi]
          rcases List.mem_append.mp hd with h | h
          · exact ⟨List.mem_append_left _ (md d h).1, (md d h).2⟩
          · rw [List.mem_singleton.mp h]; exact ⟨List.mem_append_right _ (List.mem_singleton.mpr rfl), ht⟩
      by_cases h0 : i = 0
      · subst h0
        rw [if_pos (by simp)]
        exact body _ _ _ rfl fun d hd => absurd (md d hd).1 (by rw [List.take_zero]; simp)
      · rw [if_neg (by simp; omega), w_ixL cs4]
        obtain ⟨_, e1, rfl⟩ := ech i hi
        refine ⟨_, e1, ?_⟩
        rw [show ((i : Int) - 1) = ((i - 1 : Nat) : Int) by omega, w_ixL cs4]
        obtain ⟨_, e2, rfl⟩ := ech (i - 1) (by omega)
        refine ⟨_, e2, _, Dg.eq_str, ?_⟩
        by_cases he : ch[i] = ch[i - 1]
        · rw [if_neg (by simp [he])]
          refine ⟨f4, ⟨_, _, _, rfl⟩, ds, c4, nd, fun d hd => ⟨?_, (md d hd).2⟩, by omega⟩
          rw [take_snoc hi]
          exact List.mem_append_left _ (md d hd).1
        · rw [if_pos (by simp [he])]
          refine body _ _ _ rfl fun d hd e => he ?_
          have h1 := (md d hd).1
          rw [e] at h1
          obtain ⟨j, hj, ej⟩ := List.getElem_of_mem h1
          rw [List.length_take] at hj
          rw [List.getElem_take] at ej
          have pw := List.pairwise_iff_getElem.mp so
          have a1 : leS ch[i - 1] ch[i] := pw (i - 1) i (by omega) hi (by omega)
          by_cases hji : j = i - 1
          · subst hji; exact ej.symm
          · have a2 : leS ch[j] ch[i - 1] := pw j (i - 1) (by omega) (by omega) (by omega)
            rw [ej] at a2
            exact leS_anti a2 a1
    · rintro s' μ4 ⟨f4, ⟨x4, x5, x6, rfl⟩, ds, c4, nd, md, ld⟩
      walk_at "go"
      rw [w_tupleL c4]
      exact q ds μ4 ⟨fun d hd => m2 _ (List.mem_of_mem_take (md d hd).1), nd, fun d hd => (md d hd).2, by omega⟩ (f3.trans f4)
open TL (tl ext_tl tl_append joinL)
def llB0 (C : Calls) : FS :=
    (sAsg (.one 6) (fCall bLen (aCons (fLc (iSeq (fVar 4)) [10] (.one 10) (tstB (fOp uEq (fVar 10) (fC (.str "val")))) (fVar 10)) aNil)))
def llB1 (C : Calls) : FS :=
    (sIf (tstB (fOp uEq (fVar 6) (fC (.int 0)))) (sExpr (fMtL gAppend (fVar 2) (aCons (fTup (aCons (fOp uAdd (fVar 3) (fC (.str "?"))) (aCons (fTup (aCons (fVar 3) (aCons (fC (.int 0)) (aCons (fC (.bl false)) (aCons (fC (.int 0)) aNil))))) aNil))) aNil))) (sAsg (.one 2) (fOp uAdd (fVar 2) (fLc (iRg1 (fOp ixU (fLst (aCons (fC (.int 0)) (aCons (fC (.int 3)) (aCons (fC (.int 9)) aNil)))) (fVar 6))) [9] (.one 9) tAll (fTup (aCons (fOp uAdd (fOp uAdd (fVar 3) (fC (.str "?"))) (fCall bStr (aCons (fVar 9) aNil))) (aCons (fTup (aCons (fVar 3) (aCons (fC (.int 0)) (aCons (fC (.bl false)) (aCons (fVar 9) aNil))))) aNil)))))))
def llB2 (C : Calls) : FS :=
    (sAsg (.one 2) (fOp uAdd (fVar 2) (fLc (iRg1 (fOp ixU (fLst (aCons (fC (.int 1)) (aCons (fC (.int 3)) aNil))) (fCall bInt (aCons (fOp uEq (fVar 5) (fC (.str "exp"))) aNil)))) [9] (.one 9) tAll (fTup (aCons (fOp uAdd (fOp uAdd (fVar 3) (fC (.str "!"))) (fCall bStr (aCons (fVar 9) aNil))) (aCons (fTup (aCons (fVar 3) (aCons (fC (.int 0)) (aCons (fC (.bl true)) (aCons (fVar 9) aNil))))) aNil))))))
def llB3 (C : Calls) : FS :=
    (sFor (iRg1 (fCall bLen (aCons (fVar 4) aNil))) (.one 7) (sSeq (sAsg (.one 8) (fOp uAdd (fOp uAdd (fVar 3) (fC (.str "."))) (fCall bStr (aCons (fOp uAdd (fVar 7) (fC (.int 1))) aNil))))
    (sIf (tstB (fOp uNe (fOp ixU (fVar 4) (fVar 7)) (fC (.str "val")))) (sSeq (sExpr (fMtL gAppend (fVar 2) (aCons (fTup (aCons (fOp uAdd (fVar 8) (fC (.str "?"))) (aCons (fTup (aCons (fVar 3) (aCons (fOp uAdd (fVar 7) (fC (.int 1))) (aCons (fC (.bl false)) (aCons (fC (.int 0)) aNil))))) aNil))) aNil)))
    (sAsg (.one 2) (fOp uAdd (fVar 2) (fLc (iRg1 (fOp ixU (fLst (aCons (fC (.int 1)) (aCons (fC (.int 3)) aNil))) (fCall bInt (aCons (fOp uEq (fOp ixU (fVar 4) (fVar 7)) (fC (.str "exp"))) aNil)))) [9] (.one 9) tAll (fTup (aCons (fOp uAdd (fOp uAdd (fVar 8) (fC (.str "!"))) (fCall bStr (aCons (fVar 9) aNil))) (aCons (fTup (aCons (fVar 3) (aCons (fOp uAdd (fVar 7) (fC (.int 1))) (aCons (fC (.bl true)) (aCons (fVar 9) aNil))))) aNil))))))) sNext)))
theorem ll_is (C : Calls) : b__law_letters C = (sSeq (sAsg (.one 2) (fLst (aCons (fTup (aCons (fC (.str "?")) (aCons (fTup (aCons (fC (.str "")) (aCons (fC (.int 0)) (aCons (fC (.bl false)) (aCons (fC (.int 0)) aNil))))) aNil))) aNil)))
    (sSeq (sAsg (.one 2) (fOp uAdd (fVar 2) (fLc (iRg1 (fOp ixU (fLst (aCons (fC (.int 1)) (aCons (fC (.int 3)) aNil))) (fCall bInt (aCons (fOp uEq (fVar 1) (fC (.str "exp"))) aNil)))) [9] (.one 9) tAll (fTup (aCons (fOp uAdd (fC (.str "!")) (fCall bStr (aCons (fVar 9) aNil))) (aCons (fTup (aCons (fC (.str "")) (aCons (fC (.int 0)) (aCons (fC (.bl true)) (aCons (fVar 9) aNil))))) aNil))))))
    (sSeq (sExpr (fMtL gAppend (fVar 2) (aCons (fTup (aCons (fC (.str "!!")) (aCons (fTup (aCons (fC (.str "!")) aNil)) aNil))) aNil)))
    (sSeq (sFor (iSeq (fVar 0)) (.tup [3, 4, 5]) (sSeq (llB0 C)
    (sSeq (llB1 C)
    (sSeq (llB2 C)
    (llB3 C)))))
    (sRet (fVar 2)))))) := rfl
def rowU (ds : List Dc) (m : Mv) : U := .tup [.str (txt ds m), mvU m]
theorem t_bang : tl ("!" : Str) = [33] := by decide +kernel
theorem t_qu : tl ("?" : Str) = [63] := by decide +kernel
theorem t_dot : tl ("." : Str) = [46] := by decide +kernel
theorem tx_ans {ds : List Dc} {n h : Str} {a v : Nat} (eh : tl h = tl n ++ (if a = 0 then [] else [46, 48 + a])) : h ++ ("!" : Str) ++ mkS [48 + v] = txt ds (.mk n a true v) := ext_tl (by
  rw [tl_append, tl_append, t_bang, eh, tl_mkS]
  rw [show tl (txt ds (.mk n a true v)) = txL ds (.mk n a true v) from rfl]
  simp [txL])
theorem tx_qst {ds : List Dc} {n h : Str} {a : Nat} (eh : tl h = tl n ++ (if a = 0 then [] else [46, 48 + a])) (hv : ¬ (a = 0 ∧ hasV ds n = true)) : h ++ ("?" : Str) = txt ds (.mk n a false 0) := ext_tl (by
  rw [tl_append, t_qu, eh]
  rw [show tl (txt ds (.mk n a false 0)) = tl n ++ ((if a = 0 then [] else [46, 48 + a]) ++ (if a = 0 ∧ hasV ds n = true then [63, 48 + 0] else [63])) from rfl]
  rw [if_neg hv]
  simp)
theorem tx_qv {ds : List Dc} {n : Str} {v : Nat} (hv : hasV ds n = true) : n ++ ("?" : Str) ++ mkS [48 + v] = txt ds (.mk n 0 false v) := ext_tl (by
  rw [tl_append, tl_append, t_qu, tl_mkS]
  rw [show tl (txt ds (.mk n 0 false v)) = txL ds (.mk n 0 false v) from rfl]
  simp [txL, hv])
theorem lim_of' {n : Nat} (h : n ≤ 1000) : n ≤ lim := Nat.le_trans h (by decide)
/-- the list of rows at rr -/
structure RowsAt (ds : List Dc) (μ0 : Mem) (L : List Mv) (rr : Nat) (μ : Mem) : Prop where
  at_ : μ[rr]? = some (.lst (L.map (rowU ds)))
  fr : Fr μ0 μ
  le : μ0.length ≤ rr
theorem RowsAt.fr' {ds : List Dc} {μ0 μ μ' : Mem} {L : List Mv} {rr : Nat} (h : RowsAt ds μ0 L rr μ) (f : Fr μ μ') : RowsAt ds μ0 L rr μ' := ⟨f.at_ _ _ h.at_, h.fr.trans f, h.le⟩
theorem hlen {h : Str} {l : List Nat} (e : tl h = l) (n : Nat) (hl : l.length ≤ n) : h.length ≤ n := by rw [TL.len_tl, e]; exact hl
theorem nm_len {n : Str} (h : n ∈ NMS) : n.length ≤ 4 := by rw [TL.len_tl]; exact nms_of (P := fun l => l.length ≤ 4) (by decide) h
theorem l_b : ("!" : Str).length = 1 := by decide +kernel
theorem l_q : ("?" : Str).length = 1 := by decide +kernel
theorem l_d : ("." : Str).length = 1 := by decide +kernel
theorem e13 {p : Prop} [Decidable p] {e : Bool} {μ : Mem} {d : Nat} (hp : p ↔ e = true) (h : μ[d]? = some (.lst [.int 1, .int 3])) {Q : U → Mem → Prop} {E : Str → Mem → Prop} (q : Q (.int ((wd e : Nat) : Int)) μ) : wpE (ixU (.ref d) (.int (if p then 1 else 0)) μ) Q E := by
  rw [w_ixL h]
  cases e with
  | true => rw [if_pos (hp.mpr rfl)]; exact ⟨_, rfl, q⟩
  | false => rw [if_neg (fun z => by cases hp.mp z)]; exact ⟨_, rfl, q⟩
theorem okR_wd (e : Bool) : okR ((wd e : Nat) : Int) = true := by cases e <;> decide
theorem rows_add {ds : List Dc} {L M : List Mv} {rr d : Nat} {μ0 μ : Mem} (R : RowsAt ds μ0 L rr μ) (h : μ[d]? = some (.lst (M.map (rowU ds)))) (hl : L.length + M.length ≤ 1000) {Q : U → Mem → Prop} {E : Str → Mem → Prop} (q : ∀ rr' μ', RowsAt ds μ0 (L ++ M) rr' μ' → Fr μ μ' → Q (.ref rr') μ') : wpE (uAdd (.ref rr) (.ref d) μ) Q E := by
  rw [w_addL' R.at_ h (by rw [List.length_map, List.length_map]; exact Nat.le_trans hl (by decide))]
  exact q _ _ ⟨by rw [List.map_append]; exact get_snoc, R.fr.snoc, R.fr.le⟩ Fr.refl.snoc
/-- answers with the head's text in slot j, the name in slot 3 -/
theorem b2_s {C : Calls} {ds : List Dc} {d : Dc} {L : List Mv} {rr : Nat} {kd : U} {ts : U} {x6 x7 x8 x9 x10 : Option U} {μ0 μ : Mem} {D : Dn} (hn : d.nm ∈ NMS) (R : RowsAt ds μ0 L rr μ) (hl : L.length ≤ 100)
    (q : ∀ rr' μ', RowsAt ds μ0 (L ++ ansL d.nm 0 d.ex) rr' μ' → Fr μ μ' → D.nx [some (dsU ds), some kd, some (.ref rr'), some (.str d.nm), some ts, some (.str (kS d.ex)), x6, x7, x8, x9, x10] μ') :
    Dg.wpS (llB2 C [some (dsU ds), some kd, some (.ref rr), some (.str d.nm), some ts, some (.str (kS d.ex)), x6, x7, x8, x9, x10] μ) D := by
  unfold llB2
  walk_at "go"
  have f1 : Fr μ (μ ++ [Cell.lst [U.int 1, U.int 3]]) := Fr.refl.snoc
  have c1 : (μ ++ [Cell.lst [U.int 1, U.int 3]])[μ.length]? = some (.lst [.int 1, .int 3]) := get_snoc
  generalize (μ ++ [Cell.lst [U.int 1, U.int 3]]) = μ1 at *
  refine e13 kS_e c1 ⟨_, rfl, okR_wd _, ?_⟩
  have hnl := nm_len hn
  refine lc_mapR (wd d.ex) (fun v => rowU ds (.mk d.nm 0 true v)) (by simp) (by have := wd_le d.ex; omega) (fun i μ2 hi f2 => ?_) fun μ2 f2 c2 => ?_
  · refine ⟨_, rfl, ?_⟩
    have hi9 : i < 10 := by have := wd_le d.ex; omega
    walk_at "go"
    rw [w_addS (by rw [l_b]; exact lim_of' (by omega))]
    try walk_at "go"
    rw [w_strN hi9, w_addS (by rw [len_app, l_b, len_mkS]; exact lim_of' (by simp only [List.length_cons, List.length_nil]; omega))]
    try walk_at "go"
    rw [tx_ans (ds := ds) (n := d.nm) (a := 0) (by simp)]
    exact ⟨rfl, .refl⟩
  · refine rows_add (R.fr' (f1.trans f2)) (M := ansL d.nm 0 d.ex) (by rw [c2]; unfold ansL; rw [List.map_map]; rfl) (by have := ans_len (n := d.nm) (a := 0) (e := d.ex); omega) fun rr' μ3 R3 f3 => ?_
    exact q rr' μ3 R3 ((f1.trans f2).trans f3)
theorem rows_push {ds : List Dc} {L : List Mv} {m : Mv} {rr : Nat} {μ0 μ : Mem} (R : RowsAt ds μ0 L rr μ) (hl : L.length ≤ 1000) {Q : U → Mem → Prop} {E : Str → Mem → Prop} (q : ∀ μ', RowsAt ds μ0 (L ++ [m]) rr μ' → Q .non μ') : wpE (gAppend (.ref rr) [rowU ds m] μ) Q E := by
  rw [w_append R.at_ (by rw [List.length_map]; exact Nat.lt_of_le_of_lt hl (by decide))]
  exact q _ ⟨by rw [get_set R.at_, List.map_append]; rfl, R.fr.put R.le, R.le⟩
/-- questions -/
theorem b01_s {C : Calls} {ds : List Dc} {d : Dc} {L : List Mv} {rr : Nat} {kd : U} {x6 x7 x8 x9 x10 : Option U} {μ0 μ : Mem} {D : Dn} (o : DOk ds) (hd : d ∈ ds) (R : RowsAt ds μ0 L rr μ) (hl : L.length ≤ 100)
    (q : ∀ rr' x6 μ', RowsAt ds μ0 (L ++ qsL d) rr' μ' → D.nx [some (dsU ds), some kd, some (.ref rr'), some (.str d.nm), some (.tup (d.ty.map fun t => .str (tyS t))), some (.str (kS d.ex)), x6, x7, x8, x9, x10] μ') :
    Dg.wpS (sSeq (llB0 C) (llB1 C) [some (dsU ds), some kd, some (.ref rr), some (.str d.nm), some (.tup (d.ty.map fun t => .str (tyS t))), some (.str (kS d.ex)), x6, x7, x8, x9, x10] μ) D := by
  have hn := o.nm d hd
  have hnl := nm_len hn
  have hv : hasV ds d.nm = decide (nv d.ty ≠ 0) := by unfold hasV; rw [tyOf_nd o hd, nv_any]
  have ht := o.ty d hd
  unfold llB0 llB1
  walk_at "go"
  refine lc_sel (fun u => match u with | .str x => decide (x = "val") | _ => false) id (by rw [List.length_map]; omega) (fun i μ2 hi f2 => ?_) fun μ2 f2 c2 => ?_
  · have hi' : i < d.ty.length := by simpa using hi
    have ei : (d.ty.map fun t => U.str (tyS t))[i] = .str (tyS d.ty[i]) := by simp
    rw [ei]
    refine ⟨_, rfl, ?_⟩
    walk_at "go"
    exact ⟨.refl, fun _ => ⟨rfl, .refl⟩⟩
  · rw [w_lenL c2]
    try walk_at "go"
    have el : ((((d.ty.map fun t => U.str (tyS t)).filter fun u => match u with | .str x => decide (x = "val") | _ => false).map id).length : Int) = ((nv d.ty : Nat) : Int) := by
      rw [List.map_id, List.filter_map, List.length_map]
      unfold nv
      congr 2
      refine List.filter_congr fun t _ => ?_
      exact decide_eq_decide.mpr (by rw [tyS_v])
    rw [el]
    have R2 := R.fr' f2
    by_cases h0 : nv d.ty = 0
    · rw [if_pos (by omega)]
      refine ⟨_, lstU_L R2.at_, ?_⟩
      rw [w_addS (by rw [l_q]; exact lim_of' (by omega))]
      try walk_at "go"
      rw [tx_qst (ds := ds) (n := d.nm) (a := 0) (by simp) (by rw [hv]; simp [h0])]
      refine rows_push (m := .mk d.nm 0 false 0) R2 (by omega) fun μ3 R3 => ?_
      refine q rr _ μ3 ?_
      have : qsL d = [.mk d.nm 0 false 0] := by unfold qsL; rw [h0]; rfl
      rw [this]; exact R3
    · rw [if_neg (by omega)]
      have f3 : Fr μ (μ2 ++ [Cell.lst [U.int 0, U.int 3, U.int 9]]) := f2.snoc
      have c3 : (μ2 ++ [Cell.lst [U.int 0, U.int 3, U.int 9]])[μ2.length]? = some (.lst [.int 0, .int 3, .int 9]) := get_snoc
      generalize (μ2 ++ [Cell.lst [U.int 0, U.int 3, U.int 9]]) = μ3 at *
      have hle := nv_le d.ty
      have hh : hasV ds d.nm = true := by rw [hv]; simp [h0]
      rw [w_ixL c3]
      have e9 : atI [U.int 0, .int 3, .int 9] ((nv d.ty : Nat) : Int) = some (.int ((3 ^ nv d.ty : Nat) : Int)) := by
        have : nv d.ty = 1 ∨ nv d.ty = 2 := by omega
        rcases this with e | e <;> rw [e] <;> rfl
      have l9 : 3 ^ nv d.ty ≤ 9 := by
        have : nv d.ty = 1 ∨ nv d.ty = 2 := by omega
        rcases this with e | e <;> rw [e] <;> decide
      refine ⟨_, e9, _, rfl, by simp only [okR]; generalize 3 ^ nv d.ty = z at *; exact decide_eq_true (by omega), ?_⟩
      refine lc_mapR (3 ^ nv d.ty) (fun v => rowU ds (.mk d.nm 0 false v)) (Int.toNat_natCast _) (by omega) (fun i μ4 hi f4 => ?_) fun μ4 f4 c4 => ?_
      · refine ⟨_, rfl, ?_⟩
        walk_at "go"
        rw [w_addS (by rw [l_q]; exact lim_of' (by omega))]
        try walk_at "go"
        rw [w_strN (by omega), w_addS (by rw [len_app, l_q, len_mkS]; exact lim_of' (by simp only [List.length_cons, List.length_nil]; omega))]
        try walk_at "go"
        rw [tx_qv (ds := ds) (n := d.nm) hh]
        exact ⟨rfl, .refl⟩
      · refine rows_add (R.fr' (f3.trans f4)) (M := qsL d) (by rw [c4]; unfold qsL; rw [List.map_map]; rfl) (by have := qs_len ht; omega) fun rr' μ5 R5 f5 => ?_
        exact q rr' _ μ5 R5
/-- letters of arguments -/
theorem b3_s {C : Calls} {ds : List Dc} {d : Dc} {L : List Mv} {rr : Nat} {kd : U} {x6 x7 x8 x9 x10 : Option U} {μ0 μ : Mem} {D : Dn} (o : DOk ds) (hd : d ∈ ds) (R : RowsAt ds μ0 L rr μ) (hl : L.length ≤ 100)
    (q : ∀ rr' x7 x8 μ', RowsAt ds μ0 (L ++ argL d) rr' μ' → D.nx [some (dsU ds), some kd, some (.ref rr'), some (.str d.nm), some (.tup (d.ty.map fun t => .str (tyS t))), some (.str (kS d.ex)), x6, x7, x8, x9, x10] μ') :
    Dg.wpS (llB3 C [some (dsU ds), some kd, some (.ref rr), some (.str d.nm), some (.tup (d.ty.map fun t => .str (tyS t))), some (.str (kS d.ex)), x6, x7, x8, x9, x10] μ) D := by
  have hn := o.nm d hd
  have hnl := nm_len hn
  have ht := o.ty d hd
  unfold llB3
  walk_at "go"
  rw [List.length_map]
  refine ⟨by simp [okR]; omega, ?_⟩
  refine for_rng d.ty.length (fun i s' μ' => ∃ rr' x7 x8, s' = [some (dsU ds), some kd, some (.ref rr'), some (.str d.nm), some (.tup (d.ty.map fun t => .str (tyS t))), some (.str (kS d.ex)), x6, x7, x8, x9, x10] ∧ RowsAt ds μ0 (L ++ (d.ty.zipIdx.take i).flatMap (ag1 d.nm)) rr' μ') (by simp) (by omega) ⟨rr, _, _, rfl, by simpa using R⟩ ?_ ?_
  · rintro i s' μ1 hi ⟨rr', x7, x8, rfl, R1⟩
    refine ⟨_, rfl, ?_⟩
    walk_at "go"
    rw [w_addS (by rw [l_d]; exact lim_of' (by omega))]
    try walk_at "go"
    rw [show ((i : Int) + 1) = ((i + 1 : Nat) : Int) by omega, w_strN (by omega), w_addS (by rw [len_app, l_d, len_mkS]; exact lim_of' (by simp only [List.length_cons, List.length_nil]; omega))]
    try walk_at "go"
    rw [Dg.atI_nat]
    refine ⟨.str (tyS d.ty[i]), by rw [List.getElem?_map, List.getElem?_eq_getElem hi]; rfl, _, Dg.eq_str, ?_⟩
    have hi' : i < d.ty.zipIdx.length := by simpa using hi
    rw [take_snoc hi', List.flatMap_append]
    have e1 : d.ty.zipIdx[i] = (d.ty[i], i) := by simp
    rw [e1, ← List.append_assoc]
    have l1 := flat_len (ag1 d.nm) 4 (fun _ => ag1_len) (d.ty.zipIdx.take i)
    have l2 : (L ++ (d.ty.zipIdx.take i).flatMap (ag1 d.nm)).length ≤ 120 := by
      rw [List.length_append]
      have : (d.ty.zipIdx.take i).length ≤ 2 := by rw [List.length_take, List.length_zipIdx]; omega
      omega
    generalize L ++ (d.ty.zipIdx.take i).flatMap (ag1 d.nm) = A at *
    have eh : tl (d.nm ++ ("." : Str) ++ mkS [48 + (i + 1)]) = tl d.nm ++ (if i + 1 = 0 then [] else [46, 48 + (i + 1)]) := by
      rw [tl_append, tl_append, t_dot, tl_mkS, if_neg (by omega)]; simp
    have hl8 : (d.nm ++ ("." : Str) ++ mkS [48 + (i + 1)]).length ≤ 8 := by rw [len_app, len_app, l_d, len_mkS]; simp only [List.length_cons, List.length_nil]; omega
    generalize d.nm ++ ("." : Str) ++ mkS [48 + (i + 1)] = h at *
    by_cases hv : d.ty[i] = .v
    · rw [if_neg (by rw [decide_eq_true (tyS_v.mpr hv)]; decide), hv]
      refine ⟨rr', _, _, rfl, ?_⟩
      simpa [ag1] using R1
    · rw [if_pos (by rw [decide_eq_false (fun e => hv (tyS_v.mp e))]; rfl)]
      try walk_at "go"
      refine ⟨_, lstU_L R1.at_, ?_⟩
      rw [w_addS (by rw [l_q]; exact lim_of' (by omega))]
      try walk_at "go"
      rw [tx_qst (ds := ds) (n := d.nm) (a := i + 1) eh (by simp)]
      refine rows_push (m := .mk d.nm (i + 1) false 0) R1 (by omega) fun μ2 R2 => ?_
      try walk_at "go"
      refine ⟨.str (tyS d.ty[i]), by rw [List.getElem?_map, List.getElem?_eq_getElem hi]; rfl, _, Dg.eq_str, ?_⟩
      obtain ⟨e, ea, hk⟩ : ∃ e, ag1 d.nm (d.ty[i], i) = .mk d.nm (i + 1) false 0 :: ansL d.nm (i + 1) e ∧ (tyS d.ty[i] = "exp" ↔ e = true) := by
        cases hc : d.ty[i] with
        | v => exact absurd hc hv
        | c => exact ⟨false, rfl, by decide⟩
        | e => exact ⟨true, rfl, by decide⟩
      have f1 : Fr μ2 (μ2 ++ [Cell.lst [U.int 1, U.int 3]]) := Fr.refl.snoc
      have c1 : (μ2 ++ [Cell.lst [U.int 1, U.int 3]])[μ2.length]? = some (.lst [.int 1, .int 3]) := get_snoc
      generalize (μ2 ++ [Cell.lst [U.int 1, U.int 3]]) = μ3 at *
      refine e13 (e := e) (by rw [decide_eq_true_eq]; exact hk) c1 ⟨_, rfl, okR_wd _, ?_⟩
      refine lc_mapR (wd e) (fun v => rowU ds (.mk d.nm (i + 1) true v)) (by simp) (by have := wd_le e; omega) (fun j μ4 hj f4 => ?_) fun μ4 f4 c4 => ?_
      · refine ⟨_, rfl, ?_⟩
        have hj9 : j < 10 := by have := wd_le e; omega
        walk_at "go"
        rw [w_addS (by rw [l_b]; exact lim_of' (by omega))]
        try walk_at "go"
        rw [w_strN hj9, w_addS (by rw [len_app, l_b, len_mkS]; exact lim_of' (by simp only [List.length_cons, List.length_nil]; omega))]
        try walk_at "go"
        rw [tx_ans (ds := ds) (n := d.nm) (a := i + 1) eh]
        exact ⟨rfl, .refl⟩
      · refine rows_add (R2.fr' (f1.trans f4)) (M := ansL d.nm (i + 1) e) (by rw [c4]; unfold ansL; rw [List.map_map]; rfl) (by have := ans_len (n := d.nm) (a := i + 1) (e := e); rw [List.length_append]; simp only [List.length_cons, List.length_nil]; omega) fun rr2 μ5 R5 f5 => ?_
        refine ⟨rr2, _, _, rfl, ?_⟩
        rw [List.flatMap_cons, List.flatMap_nil, List.append_nil, ea]
        rw [List.append_assoc] at R5
        exact R5
  · rintro s' μ1 ⟨rr', x7, x8, rfl, R1⟩
    refine q rr' _ _ μ1 ?_
    unfold argL
    rw [List.take_of_length_le (by simp)] at R1
    exact R1
structure LawLettersS (g : List U → Mem → Res U) : Prop where
  ap : ∀ {ds : List Dc} {k : Bool} {μ : Mem} {Q : U → Mem → Prop} {E : Str → Mem → Prop}, DOk ds → (∀ r μ', Fr μ μ' → μ.length ≤ r → μ'[r]? = some (.lst ((letL ds k).map (rowU ds))) → Q (.ref r) μ') → wpE (g [dsU ds, .str (kS k)] μ) Q E
theorem law_letters_s {C : Calls} : LawLettersS (runDef 11 (b__law_letters C)) := by
  constructor
  intro ds k μ Q E o q
  rw [ll_is]
  walk_at "go"
  have R1 : RowsAt ds μ [.mk "" 0 false 0] μ.length (μ ++ [Cell.lst [U.tup [U.str "?", U.tup [U.str "", U.int 0, U.bl false, U.int 0]]]]) := by
    refine ⟨?_, Fr.refl.snoc, Nat.le_refl _⟩
    rw [get_snoc]
    have : txt ds (.mk "" 0 false 0) = "?" := by
      rw [← tx_qst (ds := ds) (n := "") (h := "") (a := 0) (by simp) (by rw [hasV_em o]; simp)]
      decide +kernel
    simp only [List.map_cons, List.map_nil, rowU, this]
    rfl
  generalize (μ ++ [Cell.lst [U.tup [U.str "?", U.tup [U.str "", U.int 0, U.bl false, U.int 0]]]]) = μ1 at *
  have f1 : Fr μ1 (μ1 ++ [Cell.lst [U.int 1, U.int 3]]) := Fr.refl.snoc
  have c1 : (μ1 ++ [Cell.lst [U.int 1, U.int 3]])[μ1.length]? = some (.lst [.int 1, .int 3]) := get_snoc
  generalize (μ1 ++ [Cell.lst [U.int 1, U.int 3]]) = μ2 at *
  refine e13 kS_e c1 ⟨_, rfl, okR_wd _, ?_⟩
  refine lc_mapR (wd k) (fun v => rowU ds (.mk "" 0 true v)) (by simp) (by have := wd_le k; omega) (fun i μ3 hi f3 => ?_) fun μ3 f3 c3 => ?_
  · refine ⟨_, rfl, ?_⟩
    have hi9 : i < 10 := by have := wd_le k; omega
    walk_at "go"
    rw [w_strN hi9, w_addS (by rw [l_b, len_mkS]; exact lim_of' (by simp only [List.length_cons, List.length_nil]; omega))]
    try walk_at "go"
    have : ("!" : Str) ++ mkS [48 + i] = txt ds (.mk "" 0 true i) := by
      rw [← tx_ans (ds := ds) (n := "") (h := "") (a := 0) (by simp)]
      congr 1
    rw [this]
    exact ⟨rfl, .refl⟩
  · refine rows_add (R1.fr' (f1.trans f3)) (M := ansL "" 0 k) (by rw [c3]; unfold ansL; rw [List.map_map]; rfl) (by have := ans_len (n := "") (a := 0) (e := k); simp only [List.length_cons, List.length_nil]; omega) fun rr μ4 R4 f4 => ?_
    try walk_at "go"
    refine ⟨_, lstU_L R4.at_, ?_⟩
    have la := ans_len (n := "") (a := 0) (e := k)
    have efl : U.tup [U.str "!!", U.tup [U.str "!"]] = rowU ds .flt := by
      have : txt ds .flt = "!!" := ext_tl (by rw [show tl (txt ds .flt) = [33, 33] from rfl]; decide +kernel)
      unfold rowU; rw [this]; rfl
    rw [efl]
    refine rows_push (m := .flt) R4 (by simp only [List.cons_append, List.nil_append, List.length_cons]; omega) fun μ5 R5 => ?_
    try walk_at "go"
    show Dg.wpS (sForGo _ _ fuelF (.seq (ds.map dcU)) 0 _ _) _
    have ho := o.len
    refine for_seq (fun i s' μ' => ∃ rr' x3 x4 x5 x6 x7 x8 x9 x10, s' = [some (dsU ds), some (.str (kS k)), some (.ref rr'), x3, x4, x5, x6, x7, x8, x9, x10] ∧ RowsAt ds μ ((.mk "" 0 false 0 :: (ansL "" 0 k ++ [.flt])) ++ (ds.take i).flatMap perD) rr' μ') (by rw [List.length_map]; omega) ⟨rr, _, _, _, _, _, _, _, _, rfl, by simpa using R5⟩ ?_ ?_
    · rintro i s' μ6 hi ⟨rr', x3, x4, x5, x6, x7, x8, x9, x10, rfl, R6⟩
      have hi' : i < ds.length := by simpa using hi
      have ei : (ds.map dcU)[i] = dcU ds[i] := by simp
      rw [ei]
      have hd : ds[i] ∈ ds := List.getElem_mem _
      have ht := o.ty _ hd
      have lp : ((ds.take i).flatMap perD).length ≤ 40 := Nat.le_trans (flat_lenM perD 20 _ fun d h => per_len (o.ty d (List.mem_of_mem_take h))) (by rw [List.length_take]; omega)
      have l0 : ((Mv.mk "" 0 false 0 :: (ansL "" 0 k ++ [.flt])) ++ (ds.take i).flatMap perD).length ≤ 50 := by
        rw [List.length_append, List.length_cons, List.length_append]; simp only [List.length_cons, List.length_nil]; omega
      have eF : ((Mv.mk "" 0 false 0 :: (ansL "" 0 k ++ [.flt])) ++ (ds.take (i + 1)).flatMap perD) = (((((Mv.mk "" 0 false 0 :: (ansL "" 0 k ++ [.flt])) ++ (ds.take i).flatMap perD) ++ qsL ds[i]) ++ ansL ds[i].nm 0 ds[i].ex) ++ argL ds[i]) := by
        rw [take_snoc hi', List.flatMap_append, List.flatMap_cons, List.flatMap_nil, List.append_nil]
        unfold perD
        simp only [List.append_assoc]
      rw [eF]
      generalize ds[i] = d at *
      generalize ((Mv.mk "" 0 false 0 :: (ansL "" 0 k ++ [.flt])) ++ (ds.take i).flatMap perD) = acc at *
      refine ⟨[some (dsU ds), some (.str (kS k)), some (.ref rr'), some (.str d.nm), some (.tup (d.ty.map fun t => .str (tyS t))), some (.str (kS d.ex)), x6, x7, x8, x9, x10], rfl, ?_⟩
      have ess : ∀ {a b c : FS} {s : Slots} {μ : Mem} {D : Dn}, Dg.wpS (sSeq a (sSeq b c) s μ) D = Dg.wpS (sSeq (sSeq a b) c s μ) D := fun {a b c s μ D} => by
        rw [s_seq, s_seq, s_seq]
        congr 1
        simp only [s_seq]
      rw [ess, s_seq]
      have lq := qs_len ht
      have ls := ans_len (n := d.nm) (a := 0) (e := d.ex)
      refine b01_s o hd R6 (by omega) fun rr7 x6 μ7 R7 => ?_
      show Dg.wpS (sSeq (llB2 C) (llB3 C) _ _) _
      rw [s_seq]
      refine b2_s (o.nm d hd) R7 (by rw [List.length_append]; omega) fun rr8 μ8 R8 _ => ?_
      dsimp only
      have l8 : (acc ++ qsL d ++ ansL d.nm 0 d.ex).length ≤ 100 := by rw [List.length_append, List.length_append]; omega
      have h3 := @b3_s C ds d
      have h4 := fun D => @h3 _ _ (.str (kS k)) x6 x7 x8 x9 x10 _ _ D o hd R8 l8
      clear h3
      generalize llB3 C = B at *
      apply h4
      intro rr9 x7 x8 μ9 R9
      dsimp only
      exact ⟨rr9, some (.str d.nm), some (.tup (d.ty.map fun t => .str (tyS t))), some (.str (kS d.ex)), x6, x7, x8, x9, x10, rfl, R9⟩
    · rintro s' μ6 ⟨rr', x3, x4, x5, x6, x7, x8, x9, x10, rfl, R6⟩
      walk_at "go"
      rw [List.length_map, List.take_length] at R6
      exact q _ _ R6.fr R6.le R6.at_
open TL (tl ext_tl tl_append joinL)
/-! whose move, by the law -/
structure LawOtherS (g : List U → Mem → Res U) : Prop where
  ap : ∀ {m : Mv} {μ : Mem} {Q : U → Mem → Prop} {E : Str → Mem → Prop}, Q (.bl (otherM m)) μ → wpE (g [mvU m] μ) Q E
theorem law_other_s {C : Calls} : LawOtherS (runDef 1 (b__law_is_other C)) := by
  constructor
  intro m μ Q E q
  unfold b__law_is_other
  cases m with
  | flt =>
    unfold mvU
    walk_at "go"
    exact q
  | mk n a s v =>
    unfold mvU
    walk_at "go"
    unfold otherM at q
    by_cases h : n = ""
    · rw [if_pos (by simpa using h)]
      simp only [h, decide_true, Bool.true_or] at q
      cases s <;> exact q
    · rw [if_neg (by simpa using h)]
      simp only [h, decide_false, Bool.false_or] at q
      cases s with
      | true =>
        rw [if_pos rfl]
        by_cases ha : a = 0
        · subst ha
          rw [if_pos (by simp)]
          exact q
        · rw [if_neg (by simpa using ha), if_neg (by decide)]
          rw [show decide (0 < a) = true from decide_eq_true (by omega)] at q
          exact q
      | false =>
        rw [if_neg (by decide), if_pos (by decide)]
        by_cases ha : a = 0
        · subst ha
          exact q
        · rw [show decide ((0 : Int) < (a : Int)) = true from decide_eq_true (by omega)]
          rw [show decide (0 < a) = true from decide_eq_true (by omega)] at q
          exact q
/-! joined texts -/
theorem join_mem {S : List Nat} {c : Nat} : ∀ {ps : List (List Nat)}, c ∈ joinL S ps → c ∈ S ∨ ∃ p ∈ ps, c ∈ p
  | [], h => by cases h
  | [p], h => .inr ⟨p, by simp, h⟩
  | p :: q :: r, h => by
    rcases List.mem_append.mp h with h | h
    · exact .inr ⟨p, by simp, h⟩
    · rcases List.mem_append.mp h with h | h
      · exact .inl h
      · rcases join_mem h with h | ⟨x, hx, h⟩
        · exact .inl h
        · exact .inr ⟨x, by simp only [List.mem_cons] at hx ⊢; exact .inr hx, h⟩
theorem join_len {S : List Nat} {k : Nat} : ∀ {ps : List (List Nat)}, (∀ p ∈ ps, p.length ≤ k) → (joinL S ps).length ≤ ps.length * (k + S.length)
  | [], _ => by simp [joinL]
  | [p], h => by
    have := h p (by simp)
    show p.length ≤ _
    simp only [List.length_cons, List.length_nil]
    omega
  | p :: q :: r, h => by
    have h1 := h p (by simp)
    have h2 := join_len (S := S) (ps := q :: r) fun x hx => h x (by simp only [List.mem_cons] at hx ⊢; exact .inr hx)
    show (p ++ (S ++ joinL S (q :: r))).length ≤ _
    rw [List.length_append, List.length_append, List.length_cons, Nat.succ_mul]
    omega
theorem join_ne {S : List Nat} (hS : S ≠ []) : ∀ {ps : List (List Nat)}, ps ≠ [] → (∀ p, ps = [p] → p ≠ []) → joinL S ps ≠ []
  | [], h, _ => absurd rfl h
  | [p], _, h => h p rfl
  | p :: q :: r, _, _ => by
    show p ++ (S ++ _) ≠ []
    intro e
    have := (List.append_eq_nil_iff.mp (List.append_eq_nil_iff.mp e).2).1
    exact hS this
theorem joinL_cons {S p : List Nat} {r : List (List Nat)} (h : r ≠ []) : joinL S (p :: r) = p ++ (S ++ joinL S r) := by
  cases r with
  | nil => exact absurd rfl h
  | cons q r => rfl
theorem join_cut {S x y : List Nat} {B : List (List Nat)} : ∀ A : List (List Nat), joinL S (A ++ (x ++ S ++ y) :: B) = joinL S (A ++ x :: y :: B)
  | [] => by
    rw [List.nil_append, List.nil_append]
    cases B with
    | nil =>
      show x ++ S ++ y = x ++ (S ++ y)
      rw [List.append_assoc]
    | cons b B =>
      rw [joinL_cons (by simp), joinL_cons (r := y :: b :: B) (by simp), joinL_cons (r := b :: B) (by simp)]
      simp only [List.append_assoc]
  | a :: A => by
    rw [List.cons_append, List.cons_append, joinL_cons (by simp), joinL_cons (by simp), join_cut A]
/-- texts that can be joined and split again -/
structure Wd (p : Str) : Prop where
  sp : 32 ∉ tl p
  ok : ∀ c ∈ tl p, c < 1114112
  len : (tl p).length ≤ 20
theorem t_sp : tl (" " : Str) = [32] := by decide +kernel
theorem tl_joinS (ps : List Str) : tl (Txt.join " " ps) = joinL [32] (ps.map tl) := by
  rw [TL.join_eq, TL.tl_join, t_sp]
theorem join_ok {ps : List Str} (h : ∀ p ∈ ps, Wd p) : PyData.strOk (Txt.join " " ps) = true := by
  refine sok fun c hc => ?_
  rw [tl_joinS] at hc
  rcases join_mem hc with h1 | ⟨p, hp, h1⟩
  · rw [List.mem_singleton.mp h1]; decide
  · obtain ⟨x, hx, rfl⟩ := List.mem_map.mp hp
    exact (h x hx).ok c h1
theorem parts_ok {ps : List Str} (h : ∀ p ∈ ps, Wd p) (hl : ps.length ≤ 50) (hne : ps ≠ []) (h1 : ∀ p, ps = [p] → p ≠ "") : PartsOk (Txt.join " " ps) ps := by
  refine ⟨?_, ?_, ?_, fun p hp => sok (h p hp).ok⟩
  · rw [TL.len_tl, tl_joinS]
    intro e
    refine join_ne (S := [32]) (by simp) (ps := ps.map tl) (by simpa using hne) (fun p hp => ?_) (List.length_eq_zero_iff.mp e)
    cases ps with
    | nil => cases hp
    | cons a r =>
      cases r with
      | nil =>
        rw [List.map_cons, List.map_nil, List.cons.injEq] at hp
        rw [← hp.1]
        intro e2
        exact h1 a rfl (ext_tl (e2.trans rfl))
      | cons b r => simp at hp
  · rw [TL.len_tl, tl_joinS]
    have := join_len (S := [32]) (k := 20) (ps := ps.map tl) fun p hp => by
      obtain ⟨x, hx, rfl⟩ := List.mem_map.mp hp
      exact (h x hx).len
    rw [List.length_map] at this
    simp only [List.length_cons, List.length_nil] at this
    exact Nat.le_trans (show _ ≤ 2000 by omega) (by decide)
  · exact TL.split_join (y := " ") (s := 32) (S := []) t_sp (by decide +kernel) hne fun p hp => (h p hp).sp
theorem join_sum {ps : List Str} (h : ∀ p ∈ ps, p.length ≤ 20) (hl : ps.length ≤ 50) : (ps.map (·.length)).sum + ps.length * (" " : Str).length ≤ 16777216 := by
  have : ∀ {qs : List Str}, (∀ p ∈ qs, p.length ≤ 20) → (qs.map (·.length)).sum ≤ qs.length * 20 := by
    intro qs
    induction qs with
    | nil => intro _; simp
    | cons a r ih =>
      intro h
      have h1 := h a (by simp)
      have h2 := ih fun p hp => h p (by simp [hp])
      rw [List.map_cons, List.sum_cons, List.length_cons, Nat.succ_mul]
      omega
  have h1 := this h
  have h2 : (" " : Str).length = 1 := by decide +kernel
  rw [h2]
  omega
theorem wd_txt {ds : List Dc} {m : Mv} (g : Gm ds m) : Wd (txt ds m) := by
  obtain ⟨a, b, c, d⟩ := tx_sp g
  exact ⟨a, b, d⟩
/-! reading, by the law -/
def refU : List U := [.str "refused", .bl true]
structure LawReadS (g : List U → Mem → Res U) : Prop where
  nil : ∀ {ds : List Dc} {k : Bool} {μ : Mem} {Q : U → Mem → Prop} {E : Str → Mem → Prop}, DOk ds → (∀ r μ', Fr μ μ' → μ.length ≤ r → μ'[r]? = some (.lst []) → Q (.ref r) μ') → wpE (g [dsU ds, .str (kS k), .str ""] μ) Q E
  big : ∀ {ds : List Dc} {k : Bool} {z : Str} {parts : List Str} {μ : Mem} {Q : U → Mem → Prop} {E : Str → Mem → Prop}, DOk ds → PartsOk z parts → 40 < parts.length → (∀ r μ', Fr μ μ' → μ'[r]? = some (.lst refU) → Q (.ref r) μ') → wpE (g [dsU ds, .str (kS k), .str z] μ) Q E
  yes : ∀ {ds : List Dc} {k : Bool} {z : Str} {ms : List Mv} {μ : Mem} {Q : U → Mem → Prop} {E : Str → Mem → Prop}, DOk ds → PartsOk z (ms.map (txt ds)) → ms.length ≤ 40 → (∀ m ∈ ms, m ∈ letL ds k) → (∀ r μ', Fr μ μ' → μ.length ≤ r → μ'[r]? = some (.lst (ms.map mvU)) → Q (.ref r) μ') → wpE (g [dsU ds, .str (kS k), .str z] μ) Q E
  bad : ∀ {ds : List Dc} {k : Bool} {z : Str} {parts : List Str} {μ : Mem} {Q : U → Mem → Prop} {E : Str → Mem → Prop}, DOk ds → PartsOk z parts → parts.length ≤ 41 → (∃ p ∈ parts, p ∈ BAD) → (∀ p ∈ parts, p ∈ BAD ∨ ∃ m ∈ letL ds k, p = txt ds m) → (∀ r μ', Fr μ μ' → μ'[r]? = some (.lst refU) → Q (.ref r) μ') → wpE (g [dsU ds, .str (kS k), .str z] μ) Q E
theorem law_read_s {C : Calls} (h6 : ReadS (C 6)) : LawReadS (runDef 4 (b__law_read C)) := by
  constructor
  · intro ds k μ Q E o q
    unfold b__law_read
    walk_at "go"
    exact h6.nil o q
  · intro ds k z parts μ Q E o P hl q
    unfold b__law_read
    walk_at "go"
    refine h6.big o P hl fun μ1 f1 => ?_
    refine ⟨true, rfl, ?_⟩
    rw [if_pos rfl]
    refine ⟨true, by decide, ?_⟩
    rw [if_pos rfl]
    refine ⟨false, by decide, ?_⟩
    exact q _ _ f1.snoc get_snoc
  · intro ds k z ms μ Q E o P hl hm q
    unfold b__law_read
    walk_at "go"
    exact h6.yes o P hl hm q
  · intro ds k z parts μ Q E o P hl hb ha q
    unfold b__law_read
    walk_at "go"
    refine h6.bad o P hl hb ha fun μ1 f1 => ?_
    refine ⟨true, rfl, ?_⟩
    rw [if_pos rfl]
    refine ⟨true, by decide, ?_⟩
    rw [if_pos rfl]
    refine ⟨false, by decide, ?_⟩
    exact q _ _ f1.snoc get_snoc
theorem eq_ref {r1 r2 : Nat} {us : List U} {μ : Mem} (h1 : μ[r1]? = some (.lst us)) (h2 : μ[r2]? = some (.lst us)) (h : pus us = true) (hd : dps us ≤ 5) : eqU (.ref r1) (.ref r2) μ = some true := eq_lists h1 h2 h (by omega)
theorem mv_pu (m : Mv) : pu (mvU m) = true ∧ dp (mvU m) ≤ 1 := by cases m <;> exact ⟨rfl, by simp [mvU, dp, dps]⟩
theorem mvs_pu : ∀ ms : List Mv, pus (ms.map mvU) = true ∧ dps (ms.map mvU) ≤ 1
  | [] => ⟨rfl, by simp [dps]⟩
  | m :: ms => by
    obtain ⟨a, b⟩ := mvs_pu ms
    obtain ⟨c, d⟩ := mv_pu m
    refine ⟨?_, ?_⟩
    · rw [List.map_cons, pus, c, a]; rfl
    · rw [List.map_cons, dps]; omega
def ODL : List Str := ["", "x?", "!3", "??", "f", "? ", "!", "a.3?", "hole!9", "f.0?", "?0"]
def rwT9 (C : Calls) : FS :=
    (sSeq (sStore (fVar 6) (fVar 8) (fVar 9))
    (sRet (fOr (fOp uGt (fVar 4) (fC (.int 40))) (fOr (fOp uEq (fDef 3 (C 12) (aCons (fVar 0) (aCons (fVar 1) (aCons (fMtS gJoin (fC (.str " ")) (aCons (fVar 6) aNil)) aNil)))) (fLst (aCons (fC (.str "refused")) (aCons (fC (.bl true)) aNil)))) (fAnd (fOp uEq (fVar 4) (fC (.int 1))) (fOp uEq (fVar 9) (fC (.str ""))))))))
def rwT6 (C : Calls) : FS :=
    (sSeq (sIf (tstB (fOp uEq (fVar 4) (fC (.int 0)))) (sRet (fC (.bl true))) sNext)
    (sSeq (sAsg (.one 8) (fOp uMod (fCall bInt (aCons (fOp ixU (fVar 3) (fC (.int 3))) aNil)) (fVar 4)))
    (sSeq (sAsg (.one 9) (fOp ixU (fLst (aCons (fC (.str "")) (aCons (fC (.str "x?")) (aCons (fC (.str "!3")) (aCons (fC (.str "??")) (aCons (fC (.str "f")) (aCons (fC (.str "? ")) (aCons (fC (.str "!")) (aCons (fC (.str "a.3?")) (aCons (fC (.str "hole!9")) (aCons (fC (.str "f.0?")) (aCons (fC (.str "?0")) aNil)))))))))))) (fOp uMod (fCall bInt (aCons (fOp ixU (fVar 3) (fC (.int 4))) aNil)) (fC (.int 11)))))
    (rwT9 C))))
def rwT4 (C : Calls) : FS :=
    (sSeq (sIf (tstB (fOp uGt (fVar 4) (fC (.int 40)))) (sAsg (.one 7) (fLst (aCons (fC (.str "refused")) (aCons (fC (.bl true)) aNil)))) sNext)
    (sSeq (sIf (tstB (fOp uNe (fDef 3 (C 12) (aCons (fVar 0) (aCons (fVar 1) (aCons (fMtS gJoin (fC (.str " ")) (aCons (fVar 6) aNil)) aNil)))) (fVar 7))) (sRet (fC (.bl false))) sNext)
    (rwT6 C)))
theorem rwT_is (C : Calls) : b__law_row C = (sSeq (sAsg (.one 4) (fOp uMod (fCall bInt (aCons (fOp ixU (fVar 3) (fC (.int 0))) aNil)) (fOp ixU (fLst (aCons (fC (.int 6)) (aCons (fC (.int 42)) aNil))) (fOp uMod (fCall bInt (aCons (fOp ixU (fVar 3) (fC (.int 1))) aNil)) (fC (.int 2))))))
    (sSeq (sAsg (.one 5) (fLc (iRg1 (fVar 4)) [10] (.one 10) tAll (fOp ixU (fVar 2) (fOp uMod (fCall bInt (aCons (fOp uAdd (fOp ixU (fVar 3) (fOp uAdd (fC (.int 2)) (fOp uMod (fCall bInt (aCons (fVar 10) aNil)) (fC (.int 12))))) (fOp uMul (fC (.int 7)) (fVar 10))) aNil)) (fCall bLen (aCons (fVar 2) aNil))))))
    (sSeq (sAsg (.one 6) (fLc (iSeq (fVar 5)) [11] (.one 11) tAll (fOp ixU (fVar 11) (fC (.int 0)))))
    (sSeq (sAsg (.one 7) (fLc (iSeq (fVar 5)) [11] (.one 11) tAll (fOp ixU (fVar 11) (fC (.int 1)))))
    (rwT4 C))))) := rfl
theorem odd_wd {p : Str} (h : p ∈ BAD) : Wd p := by
  have : ∀ l ∈ BAD.map tl, 32 ∉ l ∧ (∀ c ∈ l, c < 1114112) ∧ l.length ≤ 20 := by
    have hb : BAD.map tl = [[], [120, 63], [33, 51], [63, 63], [102], [33], [97, 46, 51, 63], [104, 111, 108, 101, 33, 57], [102, 46, 48, 63], [63, 48]] := by decide +kernel
    rw [hb]
    decide
  obtain ⟨a, b, c⟩ := this (tl p) (List.mem_map_of_mem h)
  exact ⟨a, b, c⟩
theorem odl_bad {p : Str} (h : p ∈ ODL) : p = "? " ∨ p ∈ BAD := by
  have : ∀ p ∈ ODL, p = "? " ∨ p ∈ BAD := by decide +kernel
  exact this p h
theorem qu_txt {ds : List Dc} (o : DOk ds) {k : Bool} : ∃ m ∈ letL ds k, ("?" : Str) = txt ds m := by
  refine ⟨.mk "" 0 false 0, by simp [letL], ?_⟩
  rw [← tx_qst (ds := ds) (n := "") (h := "") (a := 0) (by simp) (by rw [hasV_em o]; simp)]
  decide +kernel
theorem qu_cut (A B : List Str) : Txt.join " " (A ++ ("? " : Str) :: B) = Txt.join " " (A ++ ("?" : Str) :: "" :: B) := by
  refine ext_tl ?_
  rw [tl_joinS, tl_joinS, List.map_append, List.map_append, List.map_cons, List.map_cons, List.map_cons]
  have e1 : tl ("? " : Str) = [63] ++ [32] ++ [] := by decide +kernel
  have e2 : tl ("?" : Str) = [63] := by decide +kernel
  have e3 : tl ("" : Str) = [] := by decide +kernel
  rw [e1, e2, e3]
  exact join_cut _
/-- what an odd part makes of it -/
theorem odd_parts {ds : List Dc} {k : Bool} (o : DOk ds) {ms : List Mv} (hm : ∀ m ∈ ms, m ∈ letL ds k) (hl : ms.length ≤ 40) {at_ : Nat} (ha : at_ < ms.length) {odd : Str} (ho : odd ∈ ODL) (hne : ¬ (ms.length = 1 ∧ odd = "")) :
    ∃ parts, PartsOk (Txt.join " " ((ms.map (txt ds)).set at_ odd)) parts ∧ parts.length ≤ 41 ∧ (∃ p ∈ parts, p ∈ BAD) ∧ ∀ p ∈ parts, p ∈ BAD ∨ ∃ m ∈ letL ds k, p = txt ds m := by
  have hl2 : at_ < (ms.map (txt ds)).length := by simpa using ha
  rw [List.set_eq_take_append_cons_drop, if_pos hl2]
  have good : ∀ p ∈ ms.map (txt ds), Wd p ∧ ∃ m ∈ letL ds k, p = txt ds m := fun p hp => by
    obtain ⟨m, hmm, rfl⟩ := List.mem_map.mp hp
    exact ⟨wd_txt (let_gm o m (hm m hmm)), m, hm m hmm, rfl⟩
  have lt : ((ms.map (txt ds)).take at_).length = at_ := by rw [List.length_take, List.length_map]; omega
  have ld : ((ms.map (txt ds)).drop (at_ + 1)).length = ms.length - (at_ + 1) := by rw [List.length_drop, List.length_map]
  have gA : ∀ p ∈ (ms.map (txt ds)).take at_, Wd p ∧ ∃ m ∈ letL ds k, p = txt ds m := fun p hp => good p (List.mem_of_mem_take hp)
  have gB : ∀ p ∈ (ms.map (txt ds)).drop (at_ + 1), Wd p ∧ ∃ m ∈ letL ds k, p = txt ds m := fun p hp => good p (List.mem_of_mem_drop hp)
  generalize (ms.map (txt ds)).take at_ = A at *
  generalize (ms.map (txt ds)).drop (at_ + 1) = B at *
  rcases odl_bad ho with rfl | hb
  · rw [qu_cut]
    have hw : ∀ p ∈ A ++ ("?" : Str) :: "" :: B, Wd p ∧ (p ∈ BAD ∨ ∃ m ∈ letL ds k, p = txt ds m) := fun p hp => by
      rcases List.mem_append.mp hp with hp | hp
      · exact ⟨(gA p hp).1, .inr (gA p hp).2⟩
      · rcases List.mem_cons.mp hp with rfl | hp
        · obtain ⟨m, hmm, e⟩ := qu_txt o (k := k)
          refine ⟨?_, .inr ⟨m, hmm, e⟩⟩
          rw [e]; exact wd_txt (let_gm o m hmm)
        · rcases List.mem_cons.mp hp with rfl | hp
          · exact ⟨odd_wd (by decide), .inl (by decide)⟩
          · exact ⟨(gB p hp).1, .inr (gB p hp).2⟩
    have hlen : (A ++ ("?" : Str) :: "" :: B).length ≤ 41 := by rw [List.length_append, List.length_cons, List.length_cons]; omega
    refine ⟨_, parts_ok (fun p hp => (hw p hp).1) (by omega) (by simp) (fun p hp => ?_), hlen, ⟨"", by simp, by decide⟩, fun p hp => (hw p hp).2⟩
    have := congrArg List.length hp
    rw [List.length_append, List.length_cons, List.length_cons] at this
    simp only [List.length_cons, List.length_nil] at this
    omega
  · have hw : ∀ p ∈ A ++ odd :: B, Wd p ∧ (p ∈ BAD ∨ ∃ m ∈ letL ds k, p = txt ds m) := fun p hp => by
      rcases List.mem_append.mp hp with hp | hp
      · exact ⟨(gA p hp).1, .inr (gA p hp).2⟩
      · rcases List.mem_cons.mp hp with rfl | hp
        · exact ⟨odd_wd hb, .inl hb⟩
        · exact ⟨(gB p hp).1, .inr (gB p hp).2⟩
    have hlen : (A ++ odd :: B).length ≤ 41 := by rw [List.length_append, List.length_cons]; omega
    refine ⟨_, parts_ok (fun p hp => (hw p hp).1) (by omega) (by simp) (fun p hp e => ?_), hlen, ⟨odd, by simp, hb⟩, fun p hp => (hw p hp).2⟩
    subst e
    have h1 := congrArg List.length hp
    rw [List.length_append, List.length_cons] at h1
    simp only [List.length_cons, List.length_nil] at h1
    have hA : A = [] := List.length_eq_zero_iff.mp (by omega)
    have hB : B = [] := List.length_eq_zero_iff.mp (by omega)
    rw [hA, hB] at hp
    have : odd = "" := (List.cons.inj hp).1
    exact hne ⟨by rw [hA] at lt; rw [hB] at ld; simp only [List.length_nil] at lt ld; omega, this⟩
structure LawRowS (g : List U → Mem → Res U) : Prop where
  ap : ∀ {ds : List Dc} {k : Bool} {rr rn : Nat} {ns : List Nat} {μ : Mem} {Q : U → Mem → Prop} {E : Str → Mem → Prop}, DOk ds → μ[rr]? = some (.lst ((letL ds k).map (rowU ds))) → ns.length = 14 → μ[rn]? = some (.lst (ns.map fun (x : Nat) => U.int (x : Int))) → (∀ μ', Fr μ μ' → Q (.bl true) μ') → wpE (g [dsU ds, .str (kS k), .ref rr, .ref rn] μ) Q E
theorem row9_s {C : Calls} (h12 : LawReadS (C 12)) {ds : List Dc} {k : Bool} {rr rn rc rt rd at_ : Nat} {odd : Str} {ms : List Mv} {x10 x11 : Option U} {μ0 μ : Mem} {Q : U → Mem → Prop} {E : Str → Mem → Prop} (o : DOk ds) (hm : ∀ m ∈ ms, m ∈ letL ds k) (hl : ms.length ≤ 41) (ha : at_ < ms.length) (ho : odd ∈ ODL) (f0 : Fr μ0 μ) (hrt : μ0.length ≤ rt)
    (ht : μ[rt]? = some (.lst ((ms.map (txt ds)).map U.str))) (q : ∀ μ', Fr μ0 μ' → Q (.bl true) μ') :
    Dg.wpS (rwT9 C [some (dsU ds), some (.str (kS k)), some (.ref rr), some (.ref rn), some (.int ((ms.length : Nat) : Int)), some (.ref rc), some (.ref rt), some (.ref rd), some (.int (at_ : Nat)), some (.str odd), x10, x11] μ) ⟨fun _ μ' => Q .non μ', Q, fun _ _ => False, fun _ _ => False, fun c _ μ' => E c μ'⟩ := by
  unfold rwT9
  walk_at "go"
  have e1 : ixN ((ms.map (txt ds)).map U.str).length ((at_ : Nat) : Int) = some at_ := by
    rw [List.length_map, List.length_map]
    unfold ixN
    simp
    omega
  refine ⟨_, stU_L ht e1, ?_⟩
  have e2 : ((ms.map (txt ds)).map U.str).set at_ (.str odd) = ((ms.map (txt ds)).set at_ odd).map U.str := by rw [List.map_set]
  have c1 := get_set (c := .lst (((ms.map (txt ds)).map U.str).set at_ (.str odd))) ht
  have f1 := f0.put (c := .lst (((ms.map (txt ds)).map U.str).set at_ (.str odd))) hrt
  rw [e2] at c1 f1 ⊢
  generalize μ.set rt (.lst (((ms.map (txt ds)).set at_ odd).map U.str)) = μ1 at *
  try walk_at "go"
  by_cases h40 : (40 : Int) < ((ms.length : Nat) : Int)
  · rw [if_pos h40]
    exact q μ1 f1
  rw [if_neg h40, w_mtS]
  walk_at "go"
  have hw : ∀ p ∈ (ms.map (txt ds)).set at_ odd, p.length ≤ 20 ∧ ∀ c ∈ tl p, c < 1114112 := fun p hp => by
    rcases List.mem_or_eq_of_mem_set hp with h | rfl
    · obtain ⟨m, hmm, rfl⟩ := List.mem_map.mp h
      have w := wd_txt (let_gm o m (hm m hmm))
      exact ⟨by rw [TL.len_tl]; exact w.len, w.ok⟩
    · rcases odl_bad ho with rfl | hb
      · have : tl ("? " : Str) = [63, 32] := by decide +kernel
        exact ⟨by rw [TL.len_tl, this]; decide, by rw [this]; decide⟩
      · have w := odd_wd hb
        exact ⟨by rw [TL.len_tl]; exact w.len, w.ok⟩
  have ok : PyData.strOk (Txt.join " " ((ms.map (txt ds)).set at_ odd)) = true := sok fun c hc => by
    rw [tl_joinS] at hc
    rcases join_mem hc with h1 | ⟨p, hp, h1⟩
    · rw [List.mem_singleton.mp h1]; decide
    · obtain ⟨x, hx, rfl⟩ := List.mem_map.mp hp
      exact (hw x hx).2 c h1
  rw [w_joinL c1 (join_sum (fun p hp => (hw p hp).1) (by rw [List.length_set, List.length_map]; omega)) ok]
  by_cases hone : ms.length = 1 ∧ odd = ""
  · obtain ⟨h1, rfl⟩ := hone
    have ez : Txt.join " " ((ms.map (txt ds)).set at_ "") = "" := by
      obtain ⟨m, rfl⟩ : ∃ m, ms = [m] := List.length_eq_one_iff.mp h1
      have : at_ = 0 := by simp at ha; omega
      subst this
      refine ext_tl ?_
      rw [tl_joinS]
      rfl
    rw [ez]
    try walk_at "go"
    refine h12.nil o fun r μ2 f2 _ c2 => ?_
    have c3 : (μ2 ++ [Cell.lst refU])[r]? = some (.lst []) := get_snoc_lt c2
    have e0 : eqU (.ref r) (.ref μ2.length) (μ2 ++ [Cell.lst refU]) = some false := by
      have a1 : datU (μ2 ++ [Cell.lst refU]) (.ref r) = some (.list []) := by simp [datU, toD, refD, c3, toDs]
      have a2 : datU (μ2 ++ [Cell.lst refU]) (.ref μ2.length) = some (.list [.str "refused", .bool true]) := by
        have : (μ2 ++ [Cell.lst refU])[μ2.length]? = some (.lst refU) := get_snoc
        simp [datU, toD, refD, this, refU, toDs]
      unfold Dg.eqU
      simp only [a1, a2]
      simp [PyData.depth, PyData.depthAll, eqLim, PyData.eqv, PyData.eqvAll]
    refine ⟨_, e0, ?_⟩
    rw [if_neg (by decide), h1]
    exact q _ (f1.trans f2).snoc
  · obtain ⟨parts, P, hp, hb, hall⟩ := odd_parts o hm (by omega) ha ho hone
    try walk_at "go"
    refine h12.bad o P hp hb hall fun r μ2 f2 c2 => ?_
    have c3 : (μ2 ++ [Cell.lst refU])[r]? = some (.lst refU) := get_snoc_lt c2
    refine ⟨_, eq_ref c3 get_snoc rfl (by decide), ?_⟩
    rw [if_pos rfl]
    exact q _ (f1.trans f2).snoc
theorem law_row_s {C : Calls} (h12 : LawReadS (C 12)) : LawRowS (runDef 12 (b__law_row C)) := by
  constructor
  intro ds k rr rn ns μ Q E o hr hn hc q
  rw [rwT_is]
  walk_at "go"
  refine rdN 0 (by omega) hc ?_
  walk_at "go"
  have f1 : Fr μ (μ ++ [Cell.lst [U.int 6, U.int 42]]) := Fr.refl.snoc
  have c1 : (μ ++ [Cell.lst [U.int 6, U.int 42]])[μ.length]? = some (.lst [.int 6, .int 42]) := get_snoc
  generalize (μ ++ [Cell.lst [U.int 6, U.int 42]]) = μ1 at *
  refine rdN 1 (by omega) (f1.at_ _ _ hc) ?_
  walk_at "go"
  obtain ⟨a1, a2⟩ := Dg.fmod_in (x := ((ns[1]'(by omega) : Nat) : Int)) (m := 2) (by decide)
  refine rdU (us := [.int 6, .int 42]) a1 a2 c1 fun u hu => ?_
  obtain ⟨z, hz, rfl⟩ : ∃ z : Int, (z = 6 ∨ z = 42) ∧ u = .int z := by
    simp only [List.mem_cons, List.not_mem_nil, or_false] at hu
    rcases hu with rfl | rfl
    · exact ⟨6, .inl rfl, rfl⟩
    · exact ⟨42, .inr rfl, rfl⟩
  try walk_at "go"
  obtain ⟨sz, es, ls⟩ := fmod_nat (x := ((ns[0]'(by omega) : Nat) : Int)) (m := z) (by omega)
  rw [es]
  refine ⟨by omega, by simp [okR]; omega, ?_⟩
  have hsz : sz ≤ 41 := by omega
  have hlen : 0 < (letL ds k).length := by simp [letL]
  refine lc_rng sz (fun i μ' => Fr μ μ' ∧ ∃ ms : List Mv, ms.length = i ∧ (∀ m ∈ ms, m ∈ letL ds k) ∧ μ'[μ1.length]? = some (.lst (ms.map (rowU ds)))) (by simp) (by omega) ⟨f1.snoc, [], rfl, by simp, get_snoc⟩ ?_ ?_
  · rintro i μ2 hi ⟨f2, ms, lm, hm, c2⟩
    refine ⟨_, rfl, ?_⟩
    have hr2 := f2.at_ _ _ hr
    have hc2 := f2.at_ _ _ hc
    walk_at "go"
    obtain ⟨b1, b2⟩ := Dg.fmod_in (x := ((i : Nat) : Int)) (m := 12) (by decide)
    refine rdI (by omega) (by omega) hc2 fun x hx => ?_
    walk_at "go"
    refine ⟨by simp [big64], ?_⟩
    rw [w_lenL hr2]
    try walk_at "go"
    rw [List.length_map]
    refine ⟨by omega, ?_⟩
    obtain ⟨d1, d2⟩ := Dg.fmod_in (x := (x : Int) + 7 * (i : Int)) (m := (((letL ds k).length : Nat) : Int)) (by omega)
    refine rdU (us := (letL ds k).map (rowU ds)) d1 (by rw [List.length_map]; exact d2) hr2 fun u hu => ?_
    obtain ⟨m, hmm, rfl⟩ := List.mem_map.mp hu
    refine ⟨_, c2, by rw [List.length_map]; exact Nat.lt_of_le_of_lt (show _ ≤ 100 by omega) (by decide), f2.put f1.le, ms ++ [m], by simp; omega, fun y hy => ?_, ?_⟩
    · rcases List.mem_append.mp hy with h | h
      · exact hm y h
      · rw [List.mem_singleton.mp h]; exact hmm
    · rw [get_set c2, List.map_append]; rfl
  · rintro μ2 ⟨f2, ms, lm, hm, c2⟩
    subst lm
    refine ⟨_, listAt_L c2, ?_⟩
    refine lc_mapL c2 (fun u => match u with | .tup [a, _] => a | _ => .non) (by rw [List.length_map]; omega) (fun i μ3 hi f3 => ?_) fun μ3 f3 c3 => ?_
    · have hi' : i < ms.length := by simpa using hi
      have ei : (ms.map (rowU ds))[i] = .tup [.str (txt ds ms[i]), mvU ms[i]] := by simp [rowU]
      rw [ei]
      refine ⟨_, rfl, ?_⟩
      walk_at "go"
      exact .refl
    have e3 : ((ms.map (rowU ds)).map fun u => match u with | .tup [a, _] => a | _ => .non) = (ms.map (txt ds)).map U.str := by
      rw [List.map_map, List.map_map]; rfl
    rw [e3] at c3
    have c2' := f3.at_ _ _ c2
    refine ⟨_, listAt_L c2', ?_⟩
    refine lc_mapL c2' (fun u => match u with | .tup [_, a] => a | _ => .non) (by rw [List.length_map]; omega) (fun i μ4 hi f4 => ?_) fun μ4 f4 c4 => ?_
    · have hi' : i < ms.length := by simpa using hi
      have ei : (ms.map (rowU ds))[i] = .tup [.str (txt ds ms[i]), mvU ms[i]] := by simp [rowU]
      rw [ei]
      refine ⟨_, rfl, ?_⟩
      walk_at "go"
      exact .refl
    have e4 : ((ms.map (rowU ds)).map fun u => match u with | .tup [_, a] => a | _ => .non) = ms.map mvU := by
      rw [List.map_map]; rfl
    rw [e4] at c4
    have c3' := f4.at_ _ _ c3
    have f5 : Fr μ μ4 := (f2.trans f3).trans f4
    have h2l : μ.length ≤ μ2.length := f2.le
    generalize μ2.length = rt at *
    generalize μ3.length = rd at *
    generalize μ1.length = rc at *
    have wd : ∀ p ∈ ms.map (txt ds), Wd p := fun p hp => by
      obtain ⟨m, hmm, rfl⟩ := List.mem_map.mp hp
      exact wd_txt (let_gm o m (hm m hmm))
    have hj : (((ms.map (txt ds)).map (·.length)).sum + (ms.map (txt ds)).length * (" " : Str).length) ≤ 16777216 := join_sum (fun p hp => by rw [TL.len_tl]; exact (wd p hp).len) (by rw [List.length_map]; omega)
    -- behind the first reading
    have rest : ∀ rd' μ5, Fr μ μ5 → μ5[rt]? = some (.lst ((ms.map (txt ds)).map U.str)) → Dg.wpS (rwT6 C [some (dsU ds), some (.str (kS k)), some (.ref rr), some (.ref rn), some (.int ((ms.length : Nat) : Int)), some (.ref rc), some (.ref rt), some (.ref rd'), none, none, none, none] μ5) ⟨fun _ μ' => Q .non μ', Q, fun _ _ => False, fun _ _ => False, fun c _ μ' => E c μ'⟩ := fun rd' μ5 f5 ct => by
      unfold rwT6
      walk_at "go"
      by_cases h0 : ms.length = 0
      · rw [if_pos (by omega)]
        exact q μ5 f5
      rw [if_neg (by omega)]
      have hc5 := f5.at_ _ _ hc
      refine rdN 3 (by omega) hc5 ?_
      walk_at "go"
      obtain ⟨at_, ea, la⟩ := fmod_nat (x := ((ns[3]'(by omega) : Nat) : Int)) (m := ((ms.length : Nat) : Int)) (by omega)
      rw [ea]
      refine ⟨by omega, ?_⟩
      have f6 : Fr μ (μ5 ++ [Cell.lst (ODL.map U.str)]) := f5.snoc
      have c6 : (μ5 ++ [Cell.lst (ODL.map U.str)])[μ5.length]? = some (.lst (ODL.map U.str)) := get_snoc
      have ct6 := get_snoc_lt (c := .lst (ODL.map U.str)) ct
      have eod : [U.str "", U.str "x?", U.str "!3", U.str "??", U.str "f", U.str "? ", U.str "!", U.str "a.3?", U.str "hole!9", U.str "f.0?", U.str "?0"] = ODL.map U.str := rfl
      rw [eod]
      generalize (μ5 ++ [Cell.lst (ODL.map U.str)]) = μ6 at *
      refine rdN 4 (by omega) (f6.at_ _ _ hc) ?_
      walk_at "go"
      obtain ⟨a1, a2⟩ := Dg.fmod_in (x := ((ns[4]'(by omega) : Nat) : Int)) (m := 11) (by decide)
      refine rdU (us := ODL.map U.str) a1 a2 c6 fun u hu => ?_
      obtain ⟨odd, hodd, rfl⟩ := List.mem_map.mp hu
      exact row9_s h12 o hm (by omega) (by omega) hodd f6 h2l ct6 q
    unfold rwT4
    walk_at "go"
    by_cases h40 : (40 : Int) < ((ms.length : Nat) : Int)
    · rw [if_pos h40]
      try walk_at "go"
      have f6 : Fr μ (μ4 ++ [Cell.lst refU]) := f5.snoc
      have c6 : (μ4 ++ [Cell.lst refU])[μ4.length]? = some (.lst refU) := get_snoc
      have ct6 := get_snoc_lt (c := .lst refU) c3'
      rw [w_mtS]
      walk_at "go"
      rw [show [U.str "refused", U.bl true] = refU from rfl, w_joinL ct6 hj (join_ok wd)]
      have hne : ms.map (txt ds) ≠ [] := fun e => by
        have : ms.length = 0 := by have := congrArg List.length e; simpa using this
        omega
      refine h12.big o (parts_ok wd (by rw [List.length_map]; omega) hne fun p hp => ?_) (by rw [List.length_map]; omega) fun r μ7 f7 c7 => ?_
      · have := congrArg List.length hp
        rw [List.length_map] at this
        simp only [List.length_cons, List.length_nil] at this
        omega
      · refine ⟨_, eq_ref c7 (f7.at_ _ _ c6) rfl (by decide), ?_⟩
        rw [if_neg (by decide)]
        exact rest _ _ (f6.trans f7) (f7.at_ _ _ ct6)
    · rw [if_neg h40, w_mtS]
      walk_at "go"
      rw [w_joinL c3' hj (join_ok wd)]
      have hh : ∀ r μ7, Fr μ4 μ7 → μ7[r]? = some (.lst (ms.map mvU)) → ∃ b, Dg.eqU (.ref r) (.ref rd) μ7 = some b ∧ if (!b) = true then Q (U.bl false) μ7 else
          Dg.wpS (rwT6 C [some (dsU ds), some (.str (kS k)), some (.ref rr), some (.ref rn), some (.int ((ms.length : Nat) : Int)), some (.ref rc), some (.ref rt), some (.ref rd), none, none, none, none] μ7) ⟨fun _ μ' => Q .non μ', Q, fun _ _ => False, fun _ _ => False, fun c _ μ' => E c μ'⟩ := fun r μ7 f7 c7 => by
        obtain ⟨p1, p2⟩ := mvs_pu ms
        refine ⟨_, eq_ref c7 (f7.at_ _ _ c4) p1 (by omega), ?_⟩
        rw [if_neg (by decide)]
        exact rest _ _ (f5.trans f7) (f7.at_ _ _ c3')
      by_cases h0 : ms = []
      · subst h0
        have : Txt.join " " (([] : List Mv).map (txt ds)) = "" := ext_tl (by rw [tl_joinS]; rfl)
        rw [this]
        exact h12.nil o fun r μ7 f7 _ c7 => hh r μ7 f7 c7
      · refine h12.yes o (parts_ok wd (by rw [List.length_map]; omega) (by simpa using h0) fun p hp => ?_) (by omega) hm fun r μ7 f7 _ c7 => hh r μ7 f7 c7
        have hp' : p ∈ ms.map (txt ds) := by rw [hp]; simp
        obtain ⟨m, hmm, rfl⟩ := List.mem_map.mp hp'
        exact fun e => (tx_sp (let_gm o m (hm m hmm))).2.2.1 (congrArg tl e)
open TL (tl ext_tl tl_append joinL)
def lwB0 (C : Calls) : FS :=
    (sAsg (.one 4) (fDef 2 (C 10) (aCons (fVar 2) (aCons (fVar 3) aNil))))
def lwB1 (C : Calls) : FS :=
    (sAsg (.one 5) (fDef 2 (C 3) (aCons (fVar 2) (aCons (fVar 3) aNil))))
def lwB2 (C : Calls) : FS :=
    (sIf (tOr' (tNt (tst (fIsi "list" (fVar 5)))) (tstB (fOp uNe (fVar 5) (fLc (iSeq (fVar 4)) [9] (.one 9) tAll (fOp ixU (fVar 9) (fC (.int 1))))))) (sRet (fC (.bl false))) sNext)
def lwB3 (C : Calls) : FS :=
    (sExpr (fMtL gAppend (fVar 5) (aCons (fC (.tup [(.str "!")])) aNil)))
def lwB4 (C : Calls) : FS :=
    (sIf (tstB (fOp uNe (fDef 2 (C 3) (aCons (fVar 2) (aCons (fVar 3) aNil))) (fLc (iSeq (fVar 4)) [9] (.one 9) tAll (fOp ixU (fVar 9) (fC (.int 1)))))) (sRet (fC (.bl false))) sNext)
def lwB5 (C : Calls) : FS :=
    (sFor (iSeq (fVar 4)) (.tup [6, 7]) (sIf (tOr' (tstB (fOp uNe (fDef 2 (C 5) (aCons (fVar 2) (aCons (fVar 7) aNil))) (fVar 6))) (tstB (fOp uNe (fDef 1 (C 4) (aCons (fVar 7) aNil)) (fDef 1 (C 11) (aCons (fVar 7) aNil))))) (sRet (fC (.bl false))) sNext))
def lwB6 (C : Calls) : FS :=
    (sFor (iRg2 (fC (.int 1)) (fCall bMax (aCons (fC (.int 2)) (aCons (fCall bMin (aCons (fCall bLen (aCons (fVar 0) aNil)) (aCons (fC (.int 9)) aNil))) aNil)))) (.one 8) (sIf (tNt (tst (fDef 4 (C 13) (aCons (fVar 2) (aCons (fVar 3) (aCons (fVar 4) (aCons (fDef 3 (C 8) (aCons (fDef 2 (C 7) (aCons (fVar 0) (aCons (fVar 8) aNil))) (aCons (fVar 8) (aCons (fC (.int 14)) aNil)))) aNil))))))) (sRet (fC (.bl false))) sNext))
def lwF (C : Calls) : FS :=
    (sSeq (lwB0 C)
    (sSeq (lwB1 C)
    (sSeq (lwB2 C)
    (sSeq (lwB3 C)
    (sSeq (lwB4 C)
    (sSeq (lwB5 C)
    (lwB6 C)))))))
def lwR (C : Calls) : FS :=
    (sRet (fAnd (fOp uEq (fDef 3 (C 6) (aCons (fVar 2) (aCons (fC (.str "com")) (aCons (fC (.str "")) aNil)))) (fLst aNil)) (fAnd (fOp uEq (fC (.tup [(.str ""), (.int 0), (.bl false), (.int 0)])) (fTup (aCons (fC (.str "")) (aCons (fC (.int 0)) (aCons (fC (.bl false)) (aCons (fC (.int 0)) aNil)))))) (fAnd (fOp uEq (fC (.tup [(.str "!")])) (fTup (aCons (fC (.str "!")) aNil))) (fOp uEq (fC (.int 40)) (fC (.int 40)))))))
theorem lw_is (C : Calls) : b_law C = (sSeq (sAsg (.one 1) (fDef 3 (C 8) (aCons (fDef 2 (C 7) (aCons (fVar 0) (aCons (fC (.int 0)) aNil))) (aCons (fC (.int 0)) (aCons (fC (.int 10)) aNil)))))
    (sSeq (sAsg (.one 2) (fDef 1 (C 9) (aCons (fVar 1) aNil)))
    (sSeq (sFor (iSeq (fTup (aCons (fC (.str "com")) (aCons (fC (.str "exp")) aNil)))) (.one 3) (lwF C))
    (lwR C)))) := rfl
theorem w_rg2 {a b : FE} {s : Slots} {μ : Mem} {Q : IterU → Mem → Prop} {E : Str → Mem → Prop} : wpE (iRg2 a b s μ) Q E = wpE (a s μ) (fun u μ1 => wpE (b s μ1) (fun w μ2 => ∃ i j, u = .int i ∧ w = .int j ∧ (okR i && okR j) = true ∧ Q (.rng i 1 (j - i).toNat) μ2) E) E := by
  unfold iRg2; rw [w_bind]; congr 1; funext u μ1; rw [w_bind]; congr 1; funext w μ2
  apply propext
  constructor
  · intro h
    split at h
    · rename_i i j
      split at h
      · rename_i hc; exact ⟨i, j, rfl, rfl, hc, h⟩
      · exact h.elim
    · exact h.elim
  · rintro ⟨i, j, rfl, rfl, hc, q⟩
    simp only [hc, if_true]
    exact q
theorem for_lo {lo : Int} {n : Nat} {g : Tgt} {b : FS} {s : Slots} {μ : Mem} {D : Dn} (I : Nat → Slots → Mem → Prop) (hn : n < 1000000) (h0 : I 0 s μ)
    (step : ∀ i s μ, i < n → I i s μ → ∃ s1, setT g (.int (lo + (i : Int))) s = some s1 ∧ Dg.wpS (b s1 μ) ⟨I (i + 1), D.rt, D.nx, I (i + 1), D.ex⟩) (fin : ∀ s μ, I n s μ → D.nx s μ) : Dg.wpS (sForGo g b fuelF (.rng lo 1 n) 0 s μ) D := by
  refine for_go (fun i s μ => i ≤ n ∧ I i s μ) n hn ⟨by omega, h0⟩ (fun i s μ h => h.1) ?_
  rintro i s μ ⟨hi, h⟩
  rw [item_rng]
  by_cases e : i < n
  · right
    obtain ⟨s1, e1, e2⟩ := step i s μ e h
    refine ⟨_, s1, by rw [if_pos e], by rw [show lo + (i : Int) * 1 = lo + (i : Int) by omega]; exact e1, wpS.mono e2 (fun _ _ q => ⟨by omega, q⟩) (fun _ _ q => q) (fun _ _ q => q) (fun _ _ q => ⟨by omega, q⟩) fun _ _ _ q => q⟩
  · left
    have : i = n := by omega
    subst this
    exact ⟨by rw [if_neg e], fin s μ h⟩
/-- the second items of the rows -/
theorem col_s {ds : List Dc} {L : List Mv} {r : Nat} {s : Slots} {μ : Mem} {Q : U → Mem → Prop} {E : Str → Mem → Prop} (hs : 9 < s.length) (h : μ[r]? = some (.lst (L.map (rowU ds)))) (hl : L.length ≤ 200) (q : ∀ μ', Fr μ μ' → μ'[μ.length]? = some (.lst (L.map mvU)) → Q (.ref μ.length) μ') :
    wpE (lcGo (.live r) [9] (.one 9) tAll (fOp ixU (fVar 9) (fC (.int 1))) s μ.length fuelF 0 (μ ++ [.lst []])) Q E := by
  refine lc_mapL h (fun u => match u with | .tup [_, a] => a | _ => .non) (by rw [List.length_map]; omega) (fun i μ4 hi f4 => ?_) fun μ4 f4 c4 => ?_
  · have hi' : i < L.length := by simpa using hi
    have ei : (L.map (rowU ds))[i] = .tup [.str (txt ds L[i]), mvU L[i]] := by simp [rowU]
    rw [ei]
    refine ⟨_, rfl, ?_⟩
    have e9 : ((Dg.wipeU s [9]).set 9 (some (U.tup [.str (txt ds L[i]), mvU L[i]])))[9]? = some (some (U.tup [.str (txt ds L[i]), mvU L[i]])) := by
      rw [List.getElem?_set_self]
      simp [Dg.wipeU]; omega
    rw [w_op, w_var]
    refine ⟨_, e9, ?_⟩
    walk_at "go"
    exact .refl
  · refine q μ4 f4 ?_
    rw [c4, List.map_map]; rfl
theorem body_f {C : Calls} (h3 : LettersS (C 3)) (h4 : OtherS (C 4)) (h5 : TextS (C 5)) (h7 : CellS (C 7)) (h8 : NumsS (C 8)) (h10 : LawLettersS (C 10)) (h11 : LawOtherS (C 11)) (h13 : LawRowS (C 13)) {ns : List Int} {rf : Nat} {ds : List Dc} {k : Bool} {x4 x5 x6 x7 x8 x9 : Option U} {μ0 μ : Mem} {D : Dn} (o : DOk ds) (f0 : Fr μ0 μ)
    (q : ∀ x4 x5 x6 x7 x8 x9 μ', Fr μ0 μ' → D.nx [some (.frl (ns.map U.int)), some (.ref rf), some (dsU ds), some (.str (kS k)), x4, x5, x6, x7, x8, x9] μ') :
    Dg.wpS (lwF C [some (.frl (ns.map U.int)), some (.ref rf), some (dsU ds), some (.str (kS k)), x4, x5, x6, x7, x8, x9] μ) D := by
  have hll := let_len (k := k) o
  unfold lwF lwB0
  walk_at "go"
  refine h10.ap o fun rr μ1 f1 _ c1 => ?_
  unfold lwB1
  walk_at "go"
  refine h3.ap o fun r3 μ2 f2 hr3 c3 => ?_
  have c1a := f2.at_ _ _ c1
  unfold lwB2
  walk_at "go"
  refine ⟨"list", ty_L c3, true, rfl, ?_⟩
  rw [if_neg (by decide)]
  refine ⟨_, listAt_L c1a, ?_⟩
  refine col_s (by simp) c1a (by omega) fun μ3 f3 c4 => ?_
  have c3a := f3.at_ _ _ c3
  obtain ⟨p1, p2⟩ := mvs_pu (letL ds k)
  refine ⟨_, eq_ref c3a c4 p1 (by omega), ?_⟩
  rw [if_neg (by decide)]
  unfold lwB3
  walk_at "go"
  refine ⟨_, lstU_L c3a, ?_⟩
  rw [w_append c3a (by rw [List.length_map]; exact Nat.lt_of_le_of_lt (show _ ≤ 100 by omega) (by decide))]
  have c1b := f3.at_ _ _ c1a
  have h13' : rr ≠ r3 := fun e => by have := get_lt c1; omega
  have c1c := get_set_ne (c := .lst ((letL ds k).map mvU ++ [U.tup [U.str "!"]])) c1b (Ne.symm h13')
  have f4 : Fr μ0 (μ3.set r3 (.lst ((letL ds k).map mvU ++ [U.tup [U.str "!"]]))) := by
    refine Fr.put (((f0.trans f1).trans f2).trans f3) ?_
    have := (f0.trans f1).le
    omega
  generalize μ3.set r3 (.lst ((letL ds k).map mvU ++ [U.tup [U.str "!"]])) = μ4 at *
  unfold lwB4
  walk_at "go"
  refine h3.ap o fun r5 μ5 f5 _ c5 => ?_
  have c1d := f5.at_ _ _ c1c
  refine ⟨_, listAt_L c1d, ?_⟩
  refine col_s (by simp) c1d (by omega) fun μ6 f6 c6 => ?_
  refine ⟨_, eq_ref (f6.at_ _ _ c5) c6 p1 (by omega), ?_⟩
  rw [if_neg (by decide)]
  have c1e := f6.at_ _ _ c1d
  have f7 := (f4.trans f5).trans f6
  unfold lwB5
  walk_at "go"
  refine ⟨_, listAt_L c1e, ?_⟩
  refine for_live ((letL ds k).map (rowU ds)) (fun i s' μ' => μ'[rr]? = some (.lst ((letL ds k).map (rowU ds))) ∧ Fr μ0 μ' ∧ ∃ x6 x7, s' = [some (.frl (ns.map U.int)), some (.ref rf), some (dsU ds), some (.str (kS k)), some (.ref rr), some (.ref r3), x6, x7, x8, x9]) (by rw [List.length_map]; omega) ⟨c1e, f7, _, _, rfl⟩ (fun i s' μ' h => h.1) ?_ ?_
  · rintro i s' μ7 hi ⟨cr, g7, x6, x7, rfl⟩
    have hi' : i < (letL ds k).length := by simpa using hi
    have ei : ((letL ds k).map (rowU ds))[i] = .tup [.str (txt ds (letL ds k)[i]), mvU (letL ds k)[i]] := by simp [rowU]
    rw [ei]
    have hg := let_gm (k := k) o _ (List.getElem_mem hi')
    generalize (letL ds k)[i] = m at *
    refine ⟨[some (.frl (ns.map U.int)), some (.ref rf), some (dsU ds), some (.str (kS k)), some (.ref rr), some (.ref r3), some (.str (txt ds m)), some (mvU m), x8, x9], rfl, ?_⟩
    walk_at "go"
    refine h5.ap o hg fun μ8 f8 => ?_
    refine ⟨_, Dg.eq_str, ?_⟩
    rw [if_neg (by simp)]
    refine h4.ap ?_
    refine h11.ap ?_
    refine ⟨_, eq_bl, ?_⟩
    rw [if_neg (by simp)]
    exact ⟨f8.at_ _ _ cr, g7.trans f8, _, _, rfl⟩
  · rintro s' μ7 ⟨cr, g7, x6, x7, rfl⟩
    unfold lwB6
    walk_at "go"
    rw [w_rg2]
    walk_at "go"
    rw [List.length_map]
    refine ⟨_, _, rfl, rfl, by simp [okR]; omega, ?_⟩
    refine for_lo (fun i s' μ' => μ'[rr]? = some (.lst ((letL ds k).map (rowU ds))) ∧ Fr μ0 μ' ∧ ∃ x8, s' = [some (.frl (ns.map U.int)), some (.ref rf), some (dsU ds), some (.str (kS k)), some (.ref rr), some (.ref r3), x6, x7, x8, x9]) (by omega) ⟨cr, g7, _, rfl⟩ ?_ ?_
    · rintro i s' μ8 hi ⟨cr8, g8, x8, rfl⟩
      refine ⟨_, rfl, ?_⟩
      rw [show (1 : Int) + (i : Int) = ((i + 1 : Nat) : Int) by omega]
      walk_at "go"
      refine h7.ap fun c => ?_
      refine h8.ap (many := 14) (by omega) (by decide) fun nn rn μ9 ln bn f9 _ cn => ?_
      refine h13.ap o (f9.at_ _ _ cr8) ln cn fun μ10 f10 => ?_
      refine ⟨true, rfl, ?_⟩
      rw [if_neg (by decide)]
      exact ⟨f10.at_ _ _ (f9.at_ _ _ cr8), (g8.trans f9).trans f10, _, rfl⟩
    · rintro s' μ8 ⟨cr8, g8, x8, rfl⟩
      exact q _ _ _ _ _ _ μ8 g8
theorem law_ok {C : Calls} (h3 : LettersS (C 3)) (h4 : OtherS (C 4)) (h5 : TextS (C 5)) (h6 : ReadS (C 6)) (h7 : CellS (C 7)) (h8 : NumsS (C 8)) (h9 : DeclsS (C 9)) (h10 : LawLettersS (C 10)) (h11 : LawOtherS (C 11)) (h13 : LawRowS (C 13)) {ns : List Int} (h : ns.length ≤ 63) : Yes (runDef 10 (b_law C) [.frl (ns.map U.int)] []) := by
  refine Yes.of ?_
  rw [lw_is]
  walk_at "go"
  refine h7.ap (k := 0) fun c => ?_
  refine h8.ap (k := 0) (many := 10) (by decide) (by decide) fun nn rn μ1 ln bn f1 _ cn => ?_
  try walk_at "go"
  refine h9.ap ln cn fun ds μ2 o f2 => ?_
  try walk_at "go"
  refine for_seq (us := [.str (kS false), .str (kS true)]) (fun i s' μ' => ∃ x3 x4 x5 x6 x7 x8 x9, s' = [some (.frl (ns.map U.int)), some (.ref rn), some (dsU ds), x3, x4, x5, x6, x7, x8, x9]) (by decide) ⟨_, _, _, _, _, _, _, rfl⟩ ?_ ?_
  · rintro i s' μ3 hi ⟨x3, x4, x5, x6, x7, x8, x9, rfl⟩
    obtain ⟨k, ek⟩ : ∃ k, ([U.str (kS false), .str (kS true)])[i] = .str (kS k) := by
      have : i = 0 ∨ i = 1 := by simp only [List.length_cons, List.length_nil] at hi; omega
      rcases this with rfl | rfl
      · exact ⟨false, rfl⟩
      · exact ⟨true, rfl⟩
    rw [ek]
    refine ⟨_, rfl, ?_⟩
    refine body_f h3 h4 h5 h7 h8 h10 h11 h13 o .refl fun x4 x5 x6 x7 x8 x9 μ4 _ => ?_
    exact ⟨_, _, _, _, _, _, _, rfl⟩
  · rintro s' μ3 ⟨x3, x4, x5, x6, x7, x8, x9, rfl⟩
    unfold lwR
    walk_at "go"
    refine h6.nil (k := false) o fun r μ4 f4 _ c4 => ?_
    have c5 : (μ4 ++ [Cell.lst []])[r]? = some (.lst []) := get_snoc_lt c4
    refine ⟨_, eq_ref c5 get_snoc rfl (by decide), ?_⟩
    rw [if_pos rfl]
    refine ⟨_, eq_self rfl (by decide), ?_⟩
    rw [if_pos rfl]
    refine ⟨_, eq_self rfl (by decide), ?_⟩
    rw [if_pos rfl]
    trivial
theorem t0 (k : Nat) : AnswersS (call (k + 1) 0) := answers_s (C := call k)
theorem t1 (k : Nat) : QuestionsS (call (k + 1) 1) := questions_s (C := call k)
theorem t2 (k : Nat) : ArgsS (call (k + 2) 2) := args_s (C := call (k + 1)) (t0 k)
theorem t3 (k : Nat) : LettersS (call (k + 3) 3) := letters_s (C := call (k + 2)) (t0 (k + 1)) (t1 (k + 1)) (t2 k)
theorem t4 (k : Nat) : OtherS (call (k + 1) 4) := other_s (C := call k)
theorem t5 (k : Nat) : TextS (call (k + 1) 5) := text_s (C := call k)
theorem t6 (k : Nat) : ReadS (call (k + 4) 6) := read_s (C := call (k + 3)) (t3 k) (t5 (k + 2))
theorem t7 (k : Nat) : CellS (call (k + 1) 7) := cell_s (C := call k)
theorem t8 (k : Nat) : NumsS (call (k + 1) 8) := nums_s (C := call k)
theorem t9 (k : Nat) : DeclsS (call (k + 1) 9) := decls_s (C := call k)
theorem t10 (k : Nat) : LawLettersS (call (k + 1) 10) := law_letters_s (C := call k)
theorem t11 (k : Nat) : LawOtherS (call (k + 1) 11) := law_other_s (C := call k)
theorem t12 (k : Nat) : LawReadS (call (k + 5) 12) := law_read_s (C := call (k + 4)) (t6 k)
theorem t13 (k : Nat) : LawRowS (call (k + 6) 13) := law_row_s (C := call (k + 5)) (t12 k)
theorem law_t (k : Nat) {ns : List Int} (h : ns.length ≤ 63) : Yes (call (k + 7) 14 [.frl (ns.map U.int)] []) := by
  rw [call_law]
  exact law_ok (C := call (k + 6)) (t3 (k + 3)) (t4 (k + 5)) (t5 (k + 5)) (t6 (k + 2)) (t7 (k + 5)) (t8 (k + 5)) (t9 (k + 5)) (t10 (k + 5)) (t11 (k + 5)) (t13 k) h
theorem law_true (ns : List Int) (h : ns.length ≤ 63) : ∃ μ, call 190 14 [.frl (ns.map U.int)] [] = .ok (.bl true) μ := (law_t 183 h).ap
end Lw
open PySem PySem.W PySem.Calls PyProof.Rows
set_option maxRecDepth 100000 in
set_option maxHeartbeats 0 in
theorem PySem.Challenge.cw_doppelganger_k36_letters_and_texts_holds : PySem.Challenge.rw_doppelganger_k36_letters_and_texts.Holds := by
  w_on; o_law
  refine HandSHeadRun.head_any (r := OpenLaw.row PySem.Challenge.rw_doppelganger_k36_letters_and_texts) (q := view (OpenLaw.row PySem.Challenge.rw_doppelganger_k36_letters_and_texts).prog [25]) (H := Lw.hk) (ob := Lw.ob) (M := 4000) (loose := Lw.hloose) (d := HandSHeadRun.topDef (OpenLaw.row PySem.Challenge.rw_doppelganger_k36_letters_and_texts).prog 25) (kwd := []) Lw.ob_eq
    (by kernel_rfl) (fun s => by kernel_rfl) Lw.run (by kernel_rfl) (by kernel_rfl) (by kernel_rfl) (by rfl) (by first | assumption | decide +kernel) (by decide +kernel) ⟨rfl, rfl, rfl, rfl, rfl, by decide +kernel⟩ ?hw ?hc
  case hw => w_witness2
  case hc =>
    refine Dg.walk_dg (l := PySem.Challenge.rw_doppelganger_k36_letters_and_texts) (n := 63) (k := 190 + 40) (x := "script") (CX := fun w => L2.CX (PySem.Challenge.rw_doppelganger_k36_letters_and_texts).prog w) rfl (by decide) (by kernel_rfl) ⟨rfl, by decide, by decide⟩ (fun w H s e s2 z => Dg.cx_none H s e s2 z) ?F
    intro w mg fa h Y G hmg0
    obtain ⟨K, KX, c⟩ := Y
    have hmg : mg ("law" : PySem.Str) = some (.ref fa) := by
      have e : (HandSHeadRun.topDef (OpenLaw.row PySem.Challenge.rw_doppelganger_k36_letters_and_texts).prog 25).name = ("law" : PySem.Str) := by kernel_rfl
      rw [← e]
      exact hmg0
    obtain ⟨fd, Fx⟩ := Lw.facts (w := w) KX G c
    have ea := hmg.symm.trans Fx.m14
    cases ea
    exact ⟨K, fd 14, Dg.spF K mg 1 (Lw.call 190 14), KX, fun s v => L2.FunD.bindsA (ps := ["script"]) Fx.F14 (fun _ _ _ _ _ _ us hl => match us, hl with | [_], _ => rfl) s [v] rfl, fun H a ns hl ho hS => Dg.end_of (Lw.law_true ns hl) ho hS, fun base _ _ => (Lw.tab Fx 190).G14⟩

