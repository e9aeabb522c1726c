import PyProof.Rows.All
import Wide.All
import OpenK.AllK
import Wide.FinOn
import HandS.Conv
import HandS.Deep
import HandS.Defaults
import HandS.DictComp
import HandS.DictTup
import HandS.Exc
import HandS.ExcIs
import HandS.ExcOwn
import HandS.FStr
import HandS.ForMost
import HandS.Head0
import HandS.Head1
import HandS.Head2
import HandS.HeadEnd
import HandS.HeadHook1
import HandS.HeadHook2
import HandS.HeadHook3
import HandS.IsInst
import HandS.Iter
import HandS.More
import HandS.RaiseMore
import HandS.Rev
import HandS.RevRange
import HandS.SortInts
import HandS.SortRule
import HandS.Star
import HandS.StrSplit
import HandS.Style
import HandS.Text
import HandS.TryMany
import HandS.TryOnly
import HandS.TupAny
import HandS.TupMul
import HandS.WordsDict
import HandS.WordsExc
import HandS.Zip
import KE.DatumOrd
import KE.GoesEnum
import KE.GoesMore
import KE.KDictDisplayH
import KE.KItemsList
import KE.KStateDown
import Lean
import PyProof.CollectIter
import PyProof.ExcBaseAll.ValueError
import PySem.Challenge.RW_doppelganger_k88_commands_read
set_option Elab.async false
set_option linter.all false
set_option maxRecDepth 100000
set_option maxHeartbeats 0
/-! Dg0: rules that the hand layer lacks: tuples: + with an empty one first, * by any number. -/
namespace Dg
open PySem PySem.Spec PyProof.Rows L2
theorem tuple_addW0 (l b : Addr) (items items2 : Array Value) (n n2 : Nat) (dd dd2 : Option Addr) (sl sl2 : Array (Option Value)) (hc0 : items.isEmpty = true) :
    Meets (Builtin.«tuple.__add__» ⟨[.ref l, .ref b], []⟩) (fun _ R s => s.heap.get? l = some { cls := .type "tuple", dict := dd, data := .seq items n, slots := sl } ∧ s.heap.get? b = some { cls := .type "tuple", dict := dd2, data := .seq items2 n2, slots := sl2 } ∧ R (.ok (.ret (Value.ref b))) s) :=
  .of_wp fun prog w A R s h => by
    obtain ⟨hp, g, d, tk, os⟩ := s
    obtain ⟨hl, hb, h⟩ := h
    have f1 := AutoSeq1.idx_int; have f2 := AutoSeq1.sub_tuple_tuple; have f3 := AutoSeq1.sub_list_list; have f4 := AutoSeq1.sub_tuple_list; have f5 := AutoSeq1.sub_list_tuple
    wp_walk using wpAny_loadPart' hl, wpAny_loadPart' hb
    exact ⟨_, rfl, h⟩
theorem tuple_mulW1 (l : Addr) (items : Array Value) (n : Nat) (dd : Option Addr) (sl : Array (Option Value)) (x : Int) (u : Tok) (c0 : (decide (x < -(2 ^ 63)) || decide (x ≥ 2 ^ 63)) = false) (c1 : (items.isEmpty || x == 1) = true) :
    Meets (Builtin.«tuple.__mul__» ⟨[.ref l, .int x u], []⟩) (fun _ R s => s.heap.get? l = some { cls := .type "tuple", dict := dd, data := .seq items n, slots := sl } ∧ R (.ok (.ret (Value.ref l))) s) :=
  .of_wp fun prog w A R s h => by
    obtain ⟨hp, g, d, tk, os⟩ := s
    obtain ⟨hl, h⟩ := h
    have f1 := AutoSeq1.idx_int
    wp_walk using wpAny_loadPart' hl
    repeat (first
      | (refine wpAny_ite_false (decide_eq_false (by rw [c0]; exact Bool.false_ne_true)) ?_; wp_walk using wpAny_loadPart' hl)
      | (refine wpAny_ite_true c1 ?_; wp_walk using wpAny_loadPart' hl))
    exact ⟨_, rfl, h⟩
theorem tuple_mulW0 (l : Addr) (items : Array Value) (n : Nat) (dd : Option Addr) (sl : Array (Option Value)) (x : Int) (u : Tok) (c0 : (decide (x < -(2 ^ 63)) || decide (x ≥ 2 ^ 63)) = false) (c1 : (items.isEmpty || x == 1) = false) (c2 : (decide (x ≤ 0) || items.isEmpty) = true) :
    Meets (Builtin.«tuple.__mul__» ⟨[.ref l, .int x u], []⟩) (fun _ R s => s.heap.get? l = some { cls := .type "tuple", dict := dd, data := .seq items n, slots := sl } ∧
      R (.ok (.ret (Value.ref s.heap.objs.size))) { s with heap := s.heap.push { cls := Value.type "tuple", data := Data.seq #[] }, toks := s.toks }) :=
  .of_wp fun prog w A R s h => by
    obtain ⟨hp, g, d, tk, os⟩ := s
    obtain ⟨hl, h⟩ := h
    have f1 := AutoSeq1.idx_int
    wp_walk using wpAny_loadPart' hl
    repeat (first
      | (refine wpAny_ite_false (decide_eq_false (by rw [c0]; exact Bool.false_ne_true)) ?_; wp_walk using wpAny_loadPart' hl)
      | (refine wpAny_ite_false (decide_eq_false (by rw [c1]; exact Bool.false_ne_true)) ?_; wp_walk using wpAny_loadPart' hl)
      | (refine wpAny_ite_true c2 ?_; wp_walk using wpAny_loadPart' hl))
    exact ⟨_, rfl, h⟩
section
variable {X : Cx}
theorem op_cat0 : OpR X (binaryOp .Add) (fun x y H Q => ∃ a b ys, x = .ref a ∧ y = .ref b ∧ SqT X.K H a [] ∧ SqT X.K H b ys ∧ Q (.ref b) H) := by
  intro pins s σ H x y v u Q I rx ry h
  obtain ⟨a, b, ys, rfl, rfl, ha, hb, q⟩ := h
  cases rx
  cases ry
  obtain ⟨its, r1, ⟨⟨cls, dd, data, sl⟩, ho, hc, n, hd⟩, _⟩ := I.tuple ha
  obtain ⟨its2, r2, ⟨⟨cls2, dd2, data2, sl2⟩, ho2, hc2, n2, hd2⟩, _⟩ := I.tuple hb
  simp only at hc hd hc2 hd2
  subst hc hd hc2 hd2
  cases r1
  exact concat_meets ⟨_, ho, rfl⟩ ⟨_, ho2, rfl⟩ noFill_tuple_add seq_tuple_add PySem.F.slot_tuple_add PySem.F.entry_tuple_add (PySem.F.args_tuple_add_2 _ _)
    (tuple_addW0 a b _ _ n n2 dd dd2 sl sl2 rfl) ⟨ho, ho2, ⟨.ref b, H, I, rfl, q⟩⟩
theorem op_repT1 : OpR X (binaryOp .Mult) (fun x y H Q => ∃ l k xs, x = .ref l ∧ y = .int k ∧ SqT X.K H l xs ∧ (xs = [] ∨ k = 1) ∧ -(2 ^ 62) ≤ k ∧ k < 2 ^ 62 ∧ Q (.ref l) H) := by
  intro pins s σ H x y v u Q I rx ry h
  obtain ⟨l, k, xs, rfl, rfl, hT, hne, h1, h2, q⟩ := h
  cases rx
  obtain ⟨t, rfl⟩ := ry
  obtain ⟨its, r, ⟨⟨cls, dd, data, sl⟩, ho, hc, n, hd⟩, hs⟩ := I.tuple hT
  simp only at hc hd
  subst hc hd
  have c0 : (decide (k < -(2 ^ 63)) || decide (k ≥ 2 ^ 63)) = false := by
    rw [decide_eq_false (by omega), decide_eq_false (by omega)] <;> rfl
  have c1 : (its.toArray.isEmpty || k == 1) = true := by
    rcases hne with e | e
    · subst e; cases r; rfl
    · subst e; simp
  exact wpAny_binaryOp_repeat_ref (T := "tuple") (U := "int") (by decide) ⟨_, ho, rfl⟩ (fun s' => typeIs_int s' k t) noFill_tuple_mul F.fills_int_mul F.slot_int_rmul repeat_tuple F.slot_int_index.lookup
    (call_meets F.slot_int_rmul (typeIs_int s k t) F.entry_int_rmul (F.args_int_rmul_2 _ _) (int_rmul_tuple k t l its.toArray n dd sl)
      ⟨ho, rfl, ⟨_, ho, rfl⟩, call_meets F.slot_tuple_mul ⟨_, ho, rfl⟩ F.entry_tuple_mul (F.args_tuple_mul_2 _ _) (tuple_mulW1 l its.toArray n dd sl k t c0 c1) ⟨ho, ⟨.ref l, H, I, rfl, q⟩⟩⟩)
theorem op_repT0 : OpR X (binaryOp .Mult) (fun x y H Q => ∃ l k xs, x = .ref l ∧ y = .int k ∧ SqT X.K H l xs ∧ xs ≠ [] ∧ -(2 ^ 62) ≤ k ∧ k ≤ 0 ∧ ∀ p, H p = none → Q (.ref p) (upd H p (.tup []))) := by
  intro pins s σ H x y v u Q I rx ry h
  obtain ⟨l, k, xs, rfl, rfl, hT, hne, h1, h2, q⟩ := h
  cases rx
  obtain ⟨t, rfl⟩ := ry
  obtain ⟨its, r, ⟨⟨cls, dd, data, sl⟩, ho, hc, n, hd⟩, hs⟩ := I.tuple hT
  simp only at hc hd
  subst hc hd
  have hn : its ≠ [] := fun e => hne (by
    have := r.length
    rw [e] at this
    exact List.eq_nil_of_length_eq_zero this)
  have c0 : (decide (k < -(2 ^ 63)) || decide (k ≥ 2 ^ 63)) = false := by
    rw [decide_eq_false (by omega), decide_eq_false (by omega)] <;> rfl
  have hi : its.toArray.isEmpty = false := by
    cases its with
    | nil => exact absurd rfl hn
    | cons a b => rfl
  have c1 : (its.toArray.isEmpty || k == 1) = false := by
    rw [hi, Bool.false_or]
    exact beq_eq_false_iff_ne.mpr (by omega)
  have c2 : (decide (k ≤ 0) || its.toArray.isEmpty) = true := by
    rw [decide_eq_true h2]; rfl
  exact wpAny_binaryOp_repeat_ref (T := "tuple") (U := "int") (by decide) ⟨_, ho, rfl⟩ (fun s' => typeIs_int s' k t) noFill_tuple_mul F.fills_int_mul F.slot_int_rmul repeat_tuple F.slot_int_index.lookup
    (call_meets F.slot_int_rmul (typeIs_int s k t) F.entry_int_rmul (F.args_int_rmul_2 _ _) (int_rmul_tuple k t l its.toArray n dd sl)
      ⟨ho, rfl, ⟨_, ho, rfl⟩, call_meets F.slot_tuple_mul ⟨_, ho, rfl⟩ F.entry_tuple_mul (F.args_tuple_mul_2 _ _) (tuple_mulW0 l its.toArray n dd sl k t c0 c1 c2)
        ⟨ho, ⟨.ref s.heap.objs.size, _, I.laid (t' := s.toks) (o := .tup []) (fun b ob q => Heap.get?_push_of_some _ q) (Nat.le_refl _) ⟨by simp, [], .nil, IsTup.new _ _⟩, rfl, q _ (I.hok.fresh (Nat.le_refl _))⟩⟩⟩)
end
end Dg
/-! Dg1: values, cells, how they lie in the heap, and outcomes. -/
namespace Dg
open PySem PySem.Spec PyProof.Rows L2

/-! ### values and memory of the mirror -/
inductive U where
  | non | bl (b : Bool) | int (i : Int) | str (s : Str) | tup (xs : List U) | ref (i : Nat)
  /-- a list that is never changed (the script) -/
  | frl (xs : List U)
inductive Cell where
  | lst (xs : List U)
  | dct (kvs : List (Key × U))
  /-- a dict that is being walked -/
  | fdc (kvs : List (Key × U))
  /-- a dict whose keys are tuples of ints -/
  | dtt (kvs : List (List Int × U))
  /-- one whose keys are tuples of ints, while it is walked -/
  | fdt (kvs : List (List Int × U))
  /-- an instance of the class: its attributes -/
  | obj (c : Str) (fs : List (Str × U))
abbrev Mem := List Cell
abbrev Slots := List (Option U)
inductive Res (α : Type) where
  | ok (a : α) (m : Mem)
  | ex (c : Str) (m : Mem)
  | bad
def Res.bind {α β : Type} (r : Res α) (k : α → Mem → Res β) : Res β := match r with
  | .ok a m => k a m
  | .ex c m => .ex c m
  | .bad => .bad
inductive Out where
  | nx (s : Slots) (m : Mem)
  | rt (u : U) (m : Mem)
  | bk (s : Slots) (m : Mem)
  | ct (s : Slots) (m : Mem)
  | ex (c : Str) (s : Slots) (m : Mem)
  | bad
abbrev FE := Slots → Mem → Res U
abbrev FT := Slots → Mem → Res Bool
abbrev FA := Slots → Mem → Res (List U)
abbrev FS := Slots → Mem → Out

/-! ### how a value lies -/
/-- a list that stays as it is -/
def FrL (K : PySem.W.Frag) (H : Hp) (a : Addr) (xs : List V) : Prop :=
  (∃ o, H a = some (.frz o (.lst xs))) ∨
    ∃ (o : Obj) (its : Array Value) (n : Nat), K.lookup a = some o ∧ o.cls = .type "list" ∧ o.dict = none ∧ o.data = .seq its n ∧ its.size ≤ sizeLine ∧ Vals xs its.toList
theorem FrL.sq {K : PySem.W.Frag} {H : Hp} {a : Addr} {xs : List V} (h : FrL K H a xs) : SqL K H a xs := by
  rcases h with ⟨o, h⟩ | h
  · exact .inl (.inr ⟨o, h⟩)
  · exact .inr h
mutual
inductive RepV (K : PySem.W.Frag) (H : Hp) (ρ : List Addr) : U → V → Prop
  | non : RepV K H ρ .non .non
  | bl {b : Bool} : RepV K H ρ (.bl b) (.bl b)
  | int {i : Int} : RepV K H ρ (.int i) (.int i)
  | str {s : Str} : PyData.strOk s = true → RepV K H ρ (.str s) (.str s)
  | tup {us : List U} {a : Addr} {vs : List V} : SqT K H a vs → RepVs K H ρ us vs → RepV K H ρ (.tup us) (.ref a)
  | ref {i : Nat} {a : Addr} : ρ[i]? = some a → RepV K H ρ (.ref i) (.ref a)
  | frl {us : List U} {a : Addr} {vs : List V} : FrL K H a vs → RepVs K H ρ us vs → RepV K H ρ (.frl us) (.ref a)
inductive RepVs (K : PySem.W.Frag) (H : Hp) (ρ : List Addr) : List U → List V → Prop
  | nil : RepVs K H ρ [] []
  | cons {u : U} {us : List U} {v : V} {vs : List V} : RepV K H ρ u v → RepVs K H ρ us vs → RepVs K H ρ (u :: us) (v :: vs)
end
/-- tuples and what is locked stay -/
def TX (H H' : Hp) : Prop := (∀ a xs, Rd H a (.tup xs) → Rd H' a (.tup xs)) ∧ ∀ a o u, H a = some (.frz o u) → H' a = some (.frz o u)
theorem TX.refl (H : Hp) : TX H H := ⟨fun _ _ h => h, fun _ _ _ h => h⟩
theorem TX.trans {H H1 H2 : Hp} (a : TX H H1) (b : TX H1 H2) : TX H H2 := ⟨fun x o h => b.1 x o (a.1 x o h), fun x o u h => b.2 x o u (a.2 x o u h)⟩
/-- what may be changed: no tuple, nothing locked -/
def Sft (o : HO) : Prop := (∀ xs, o ≠ .tup xs) ∧ ∀ z u, o ≠ .frz z u
theorem TX.put {H : Hp} {p : Addr} {o : HO} (h : ∀ o', H p = some o' → Sft o') : TX H (upd H p o) := ⟨fun a xs r => by
  rcases r with r | ⟨z, r⟩
  · have ne : a ≠ p := fun e => (h _ (e ▸ r)).1 xs rfl
    exact .inl (by rw [upd_ne ne]; exact r)
  · have ne : a ≠ p := fun e => (h _ (e ▸ r)).2 z _ rfl
    exact .inr ⟨z, by rw [upd_ne ne]; exact r⟩, fun a z u r => by
  have ne : a ≠ p := fun e => (h _ (e ▸ r)).2 z u rfl
  rw [upd_ne ne]; exact r⟩
theorem TX.new {H : Hp} {p : Addr} {o : HO} (h : H p = none) : TX H (upd H p o) := TX.put (fun o' r => by rw [h] at r; cases r)
/-- tuples and locked lists stay: what values need -/
def TV (H H' : Hp) : Prop := (∀ a xs, Rd H a (.tup xs) → Rd H' a (.tup xs)) ∧ ∀ a o xs, H a = some (.frz o (.lst xs)) → H' a = some (.frz o (.lst xs))
theorem TX.tv {H H' : Hp} (t : TX H H') : TV H H' := ⟨t.1, fun a o xs h => t.2 a o _ h⟩
theorem TV.seq {K : PySem.W.Frag} {H H' : Hp} {a : Addr} {xs : List V} (t : TV H H') (h : SqT K H a xs) : SqT K H' a xs := by
  rcases h with h | h
  · exact .inl (t.1 a xs h)
  · exact .inr h
theorem TV.frl {K : PySem.W.Frag} {H H' : Hp} {a : Addr} {xs : List V} (t : TV H H') (h : FrL K H a xs) : FrL K H' a xs := by
  rcases h with ⟨o, h⟩ | h
  · exact .inl ⟨o, t.2 a o _ h⟩
  · exact .inr h
theorem TX.seq {K : PySem.W.Frag} {H H' : Hp} {a : Addr} {xs : List V} (t : TX H H') (h : SqT K H a xs) : SqT K H' a xs := by
  rcases h with h | h
  · exact .inl (t.1 a xs h)
  · exact .inr h
theorem TX.frl {K : PySem.W.Frag} {H H' : Hp} {a : Addr} {xs : List V} (t : TX H H') (h : FrL K H a xs) : FrL K H' a xs := by
  rcases h with ⟨o, h⟩ | h
  · exact .inl ⟨o, t.2 a o _ h⟩
  · exact .inr h
def Ext (ρ ρ' : List Addr) : Prop := ∃ l, ρ' = ρ ++ l
theorem Ext.refl (ρ : List Addr) : Ext ρ ρ := ⟨[], by simp⟩
theorem Ext.trans {a b c : List Addr} (h : Ext a b) (g : Ext b c) : Ext a c := by
  obtain ⟨l, rfl⟩ := h
  obtain ⟨r, rfl⟩ := g
  exact ⟨l ++ r, by simp⟩
theorem Ext.get {ρ ρ' : List Addr} (h : Ext ρ ρ') {i : Nat} {a : Addr} (e : ρ[i]? = some a) : ρ'[i]? = some a := by
  obtain ⟨l, rfl⟩ := h
  have : i < ρ.length := by
    rw [List.getElem?_eq_some_iff] at e
    exact e.1
  rw [List.getElem?_append_left this]
  exact e
theorem Ext.snoc (ρ : List Addr) (p : Addr) : Ext ρ (ρ ++ [p]) := ⟨[p], rfl⟩
section
variable {K : PySem.W.Frag} {H H' : Hp} {ρ ρ' : List Addr}
mutual
theorem RepV.monoV (t : TV H H') (e : Ext ρ ρ') : ∀ {u : U} {v : V}, RepV K H ρ u v → RepV K H' ρ' u v
  | _, _, .non => .non
  | _, _, .bl => .bl
  | _, _, .int => .int
  | _, _, .str h => .str h
  | _, _, .tup h r => .tup (t.seq h) (RepVs.monoV t e r)
  | _, _, .ref h => .ref (e.get h)
  | _, _, .frl h r => .frl (t.frl h) (RepVs.monoV t e r)
theorem RepVs.monoV (t : TV H H') (e : Ext ρ ρ') : ∀ {us : List U} {vs : List V}, RepVs K H ρ us vs → RepVs K H' ρ' us vs
  | _, _, .nil => .nil
  | _, _, .cons h r => .cons (RepV.monoV t e h) (RepVs.monoV t e r)
end
theorem RepV.mono (t : TX H H') (e : Ext ρ ρ') {u : U} {v : V} (h : RepV K H ρ u v) : RepV K H' ρ' u v := h.monoV t.tv e
theorem RepVs.mono (t : TX H H') (e : Ext ρ ρ') {us : List U} {vs : List V} (h : RepVs K H ρ us vs) : RepVs K H' ρ' us vs := h.monoV t.tv e
theorem RepVs.length : ∀ {us : List U} {vs : List V}, RepVs K H ρ us vs → us.length = vs.length
  | _, _, .nil => rfl
  | _, _, .cons _ r => congrArg (· + 1) (RepVs.length r)
theorem RepVs.get : ∀ {us : List U} {vs : List V} {i : Nat} {u : U}, RepVs K H ρ us vs → us[i]? = some u → ∃ v, vs[i]? = some v ∧ RepV K H ρ u v
  | _, _, _, _, .nil, e => by simp at e
  | _, _, 0, _, .cons h _, e => by simp at e; subst e; exact ⟨_, rfl, h⟩
  | _, _, i + 1, u, .cons _ r, e => by
    obtain ⟨v, h1, h2⟩ := RepVs.get (i := i) (u := u) r (by simpa using e)
    exact ⟨v, by simpa using h1, h2⟩
theorem RepVs.append : ∀ {us ws : List U} {vs xs : List V}, RepVs K H ρ us vs → RepVs K H ρ ws xs → RepVs K H ρ (us ++ ws) (vs ++ xs)
  | _, _, _, _, .nil, s => s
  | _, _, _, _, .cons h r, s => .cons h (RepVs.append r s)
theorem RepVs.set {u : U} {v : V} (h : RepV K H ρ u v) : ∀ {us : List U} {vs : List V} (i : Nat), RepVs K H ρ us vs → RepVs K H ρ (us.set i u) (vs.set i v)
  | _, _, _, .nil => .nil
  | _, _, 0, .cons _ r => .cons h r
  | _, _, i + 1, .cons q r => .cons q (RepVs.set h i r)
theorem RepVs.take : ∀ {us : List U} {vs : List V} (n : Nat), RepVs K H ρ us vs → RepVs K H ρ (us.take n) (vs.take n)
  | _, _, 0, _ => .nil
  | _, _, _ + 1, .nil => .nil
  | _, _, n + 1, .cons h r => .cons h (RepVs.take n r)
theorem RepVs.drop : ∀ {us : List U} {vs : List V} (n : Nat), RepVs K H ρ us vs → RepVs K H ρ (us.drop n) (vs.drop n)
  | _, _, 0, r => r
  | _, _, _ + 1, .nil => .nil
  | _, _, n + 1, .cons _ r => RepVs.drop n r
theorem RepVs.one {u : U} {v : V} (h : RepV K H ρ u v) : RepVs K H ρ [u] [v] := .cons h .nil
theorem RepVs.reverse {us : List U} {vs : List V} (r : RepVs K H ρ us vs) : RepVs K H ρ us.reverse vs.reverse := by
  induction us generalizing vs with
  | nil => cases r; exact .nil
  | cons u us ih =>
    cases r with
    | cons h r => rw [List.reverse_cons, List.reverse_cons]; exact (ih r).append (.one h)
theorem RepVs.ints : ∀ {is : List Int} {vs : List V}, RepVs K H ρ (is.map U.int) vs → vs = is.map V.int
  | [], _, r => by cases r; rfl
  | i :: is, _, r => by
    cases r with
    | cons h r => cases h; rw [RepVs.ints r]; rfl
theorem RepVs.ofInts : ∀ (is : List Int), RepVs K H ρ (is.map U.int) (is.map V.int)
  | [] => .nil
  | _ :: is => .cons .int (RepVs.ofInts is)
theorem RepVs.strs : ∀ {is : List Str} {vs : List V}, RepVs K H ρ (is.map U.str) vs → vs = is.map V.str
  | [], _, r => by cases r; rfl
  | i :: is, _, r => by
    cases r with
    | cons h r => cases h; rw [RepVs.strs r]; rfl
theorem RepVs.ofStrs : ∀ (is : List Str), (∀ x ∈ is, PyData.strOk x = true) → RepVs K H ρ (is.map U.str) (is.map V.str)
  | [], _ => .nil
  | x :: is, h => .cons (.str (h x (by simp))) (RepVs.ofStrs is fun y hy => h y (by simp [hy]))
theorem RepVs.strsOk : ∀ {is : List Str} {vs : List V}, RepVs K H ρ (is.map U.str) vs → ∀ x ∈ is, PyData.strOk x = true
  | [], _, _ => by simp
  | i :: is, _, r => by
    cases r with
    | cons h r =>
      cases h with
      | str h =>
        intro x hx
        rcases List.mem_cons.mp hx with e | e
        · exact e ▸ h
        · exact RepVs.strsOk r x e
theorem RepVs.bls : ∀ {is : List Bool} {vs : List V}, RepVs K H ρ (is.map U.bl) vs → vs = is.map V.bl
  | [], _, r => by cases r; rfl
  | i :: is, _, r => by
    cases r with
    | cons h r => cases h; rw [RepVs.bls r]; rfl
end

theorem nodup_inj {α : Type} {l : List α} (h : l.Nodup) {i j : Nat} (hi : i < l.length) (hj : j < l.length) (e : l[i] = l[j]) : i = j := by
  have p := List.pairwise_iff_getElem.mp h
  rcases Nat.lt_trichotomy i j with q | q | q
  · exact absurd e (p i j hi hj q)
  · exact q
  · exact absurd e.symm (p j i hj hi q)
/-- a dict at a whose keys are tuples of ints: each key, where it stands, the value -/
def tiE (x : List Int × Addr × Value) : DictEntry := ⟨reduceHash (Builtin.Tuple.tupleHashOf (x.1.map hashInt)), .ref x.2.1, x.2.2⟩
def TiRaw (a : Addr) (xs : List (List Int × Addr × V)) (h : Heap) : Prop := (a == sysModules) = false ∧ xs.length ≤ sizeLine ∧ (xs.map (·.1)).Nodup ∧ ∃ ys : List (List Int × Addr × Value),
  Paired (fun p q => p.1 = q.1 ∧ p.2.1 = q.2.1 ∧ RelV p.2.2 q.2.2) xs ys ∧ ∃ o es ep, h.get? a = some o ∧ o.ExactDict ∧ o.data = .dict es ep ∧ es.toList = ys.map tiE
def TiD (a : Addr) (xs : List (List Int × Addr × V)) : HO := .ext (TiRaw a xs)
theorem TiRaw.ok {P : Program} {w : World} {H : Hp} {h : Heap} {a : Addr} {xs : List (List Int × Addr × V)} (r : TiRaw a xs h) : ObjOk P w H h a (TiD a xs) := by
  refine ⟨r, ?_, fun h1 h2 r1 k => ?_⟩
  · obtain ⟨_, _, _, ys, _, o, es, ep, e, _⟩ := r
    exact ⟨o, e⟩
  · obtain ⟨q, z, n, ys, p, o, es, ep, e, c⟩ := r1
    exact ⟨q, z, n, ys, p, o, es, ep, k o e, c⟩
/-! ### how the memory lies -/
def RepC (K : PySem.W.Frag) (H : Hp) (ρ : List Addr) : Cell → Addr → Prop
  | .lst us, a => ∃ vs, H a = some (.lst vs) ∧ RepVs K H ρ us vs
  | .dct kus, a => ∃ kvs, H a = some (.dK kvs) ∧ kvs.map (·.1) = kus.map (·.1) ∧ RepVs K H ρ (kus.map (·.2)) (kvs.map (·.2))
  | .fdc kus, a => ∃ o kvs, H a = some (.frz o (.dK kvs)) ∧ kvs.map (·.1) = kus.map (·.1) ∧ RepVs K H ρ (kus.map (·.2)) (kvs.map (·.2))
  | .dtt kus, a => ∃ xs, H a = some (TiD a xs) ∧ (∀ p ∈ xs, SqT K H p.2.1 (p.1.map V.int)) ∧ xs.map (·.1) = kus.map (·.1) ∧ RepVs K H ρ (kus.map (·.2)) (xs.map (·.2.2))
  | .fdt kus, a => ∃ o xs, H a = some (.frz o (TiD a xs)) ∧ (∀ p ∈ xs, SqT K H p.2.1 (p.1.map V.int)) ∧ xs.map (·.1) = kus.map (·.1) ∧ RepVs K H ρ (kus.map (·.2)) (xs.map (·.2.2))
  | .obj c fs, a => ∃ dx fvs, H a = some (.ins (He.ga K c) dx fvs) ∧ fvs.map (·.1) = fs.map (·.1) ∧ RepVs K H ρ (fs.map (·.2)) (fvs.map (·.2))
structure RepM (K : PySem.W.Frag) (H : Hp) (ρ : List Addr) (μ : Mem) : Prop where
  len : ρ.length = μ.length
  nd : ρ.Nodup
  cell : ∀ (i : Nat) (c : Cell), μ[i]? = some c → ∃ a, ρ[i]? = some a ∧ RepC K H ρ c a
section
variable {K : PySem.W.Frag} {H H' : Hp} {ρ ρ' : List Addr} {μ : Mem}
def Cell.soft : Cell → Bool
  | .fdc _ => false
  | .fdt _ => false
  | _ => true
theorem RepC.there {c : Cell} {a : Addr} (h : RepC K H ρ c a) : ∃ o, H a = some o ∧ (c.soft = true → Sft o) := by
  cases c with
  | lst us => obtain ⟨vs, e, _⟩ := h; exact ⟨_, e, by simp [Sft]⟩
  | dct us => obtain ⟨vs, e, _⟩ := h; exact ⟨_, e, by simp [Sft]⟩
  | fdc us => obtain ⟨o, vs, e, _⟩ := h; exact ⟨_, e, fun h => nomatch h⟩
  | dtt us => obtain ⟨vs, e, _⟩ := h; exact ⟨_, e, by simp [Sft, TiD]⟩
  | fdt us => obtain ⟨o, vs, e, _⟩ := h; exact ⟨_, e, fun h => nomatch h⟩
  | obj c us => obtain ⟨o, vs, e, _⟩ := h; exact ⟨_, e, by simp [Sft]⟩
theorem RepC.tx {c : Cell} {a : Addr} {o' : HO} (h : RepC K H ρ c a) (hs : c.soft = true) : TX H (upd H a o') := by
  obtain ⟨o, e, h1⟩ := h.there
  exact TX.put fun o2 r => by rw [e] at r; cases r; exact h1 hs
theorem RepC.monoV {c : Cell} {a : Addr} (t : TV H H') (x : Ext ρ ρ') (e : H' a = H a) (h : RepC K H ρ c a) : RepC K H' ρ' c a := by
  cases c with
  | lst us => obtain ⟨vs, q, r⟩ := h; exact ⟨vs, e.trans q, r.monoV t x⟩
  | dct us => obtain ⟨vs, q, w, r⟩ := h; exact ⟨vs, e.trans q, w, r.monoV t x⟩
  | fdc us => obtain ⟨o, vs, q, w, r⟩ := h; exact ⟨o, vs, e.trans q, w, r.monoV t x⟩
  | dtt us => obtain ⟨vs, q, z, w, r⟩ := h; exact ⟨vs, e.trans q, fun p hp => t.seq (z p hp), w, r.monoV t x⟩
  | fdt us => obtain ⟨o, vs, q, z, w, r⟩ := h; exact ⟨o, vs, e.trans q, fun p hp => t.seq (z p hp), w, r.monoV t x⟩
  | obj c us => obtain ⟨o, vs, q, w, r⟩ := h; exact ⟨o, vs, e.trans q, w, r.monoV t x⟩
theorem RepC.mono {c : Cell} {a : Addr} (t : TX H H') (x : Ext ρ ρ') (e : H' a = H a) (h : RepC K H ρ c a) : RepC K H' ρ' c a := h.monoV t.tv x e
theorem RepM.at (m : RepM K H ρ μ) {i : Nat} {a : Addr} (e : ρ[i]? = some a) : ∃ c, μ[i]? = some c ∧ RepC K H ρ c a := by
  have hi : i < ρ.length := (List.getElem?_eq_some_iff.mp e).1
  have hj : i < μ.length := m.len ▸ hi
  obtain ⟨a', e', r⟩ := m.cell i _ (List.getElem?_eq_getElem hj)
  rw [e] at e'; cases e'
  exact ⟨_, List.getElem?_eq_getElem hj, r⟩
theorem RepM.get (m : RepM K H ρ μ) {i : Nat} {a : Addr} {c : Cell} (e : ρ[i]? = some a) (h : μ[i]? = some c) : RepC K H ρ c a := by
  obtain ⟨a', e', r⟩ := m.cell i c h
  rw [e] at e'; cases e'
  exact r
theorem RepM.lst (m : RepM K H ρ μ) {i : Nat} {a : Addr} {us : List U} (e : ρ[i]? = some a) (h : μ[i]? = some (.lst us)) : ∃ vs, H a = some (.lst vs) ∧ RepVs K H ρ us vs := m.get e h
theorem RepM.here (m : RepM K H ρ μ) {a : Addr} (h : a ∈ ρ) : H a ≠ none := by
  obtain ⟨i, hi, e⟩ := List.getElem_of_mem h
  obtain ⟨c, _, r⟩ := m.at (i := i) (a := a) (by rw [List.getElem?_eq_getElem hi, e])
  obtain ⟨o, q, _⟩ := r.there
  rw [q]; simp
theorem RepM.notin (m : RepM K H ρ μ) {p : Addr} (h : H p = none) : p ∉ ρ := fun q => m.here q h
/-- the heap has more, the memory is the same -/
theorem RepM.keep (m : RepM K H ρ μ) (t : TX H H') (k : ∀ a ∈ ρ, H' a = H a) : RepM K H' ρ μ := ⟨m.len, m.nd, fun i c h => by
  obtain ⟨a, e, r⟩ := m.cell i c h
  exact ⟨a, e, r.mono t (Ext.refl _) (k a (List.mem_of_getElem? e))⟩⟩
theorem RepM.temp (m : RepM K H ρ μ) {p : Addr} {o : HO} (h : H p = none) : RepM K (upd H p o) ρ μ := m.keep (TX.new h) fun a ha => upd_ne fun e => m.notin h (e ▸ ha)
/-- a new cell -/
theorem RepM.new (m : RepM K H ρ μ) {p : Addr} {o : HO} {c : Cell} (h : H p = none) (r : RepC K (upd H p o) (ρ ++ [p]) c p) : RepM K (upd H p o) (ρ ++ [p]) (μ ++ [c]) := by
  refine ⟨by simp [m.len], ?_, fun i d e => ?_⟩
  · rw [List.nodup_append]
    exact ⟨m.nd, by simp, fun a ha b hb => by simp at hb; subst hb; exact fun e => m.notin h (e ▸ ha)⟩
  · by_cases hi : i < μ.length
    · rw [List.getElem?_append_left hi] at e
      obtain ⟨a, e1, r1⟩ := m.cell i d e
      exact ⟨a, (Ext.snoc ρ p).get e1, r1.mono (TX.new h) (Ext.snoc ρ p) (upd_ne fun q => m.notin h (q ▸ List.mem_of_getElem? e1))⟩
    · have hi2 : i = μ.length := by
        have := (List.getElem?_eq_some_iff.mp e).1
        simp at this
        omega
      subst hi2
      rw [List.getElem?_append_right (Nat.le_refl _)] at e
      simp at e
      subst e
      exact ⟨p, by rw [← m.len, List.getElem?_append_right (Nat.le_refl _)]; simp, r⟩
/-- a cell is changed -/
theorem RepM.putV (m : RepM K H ρ μ) {i : Nat} {a : Addr} {o : HO} {c : Cell} (t : TV H (upd H a o)) (e : ρ[i]? = some a) (r : RepC K (upd H a o) ρ c a) : RepM K (upd H a o) ρ (μ.set i c) := by
  obtain ⟨c0, e0, r0⟩ := m.at e
  refine ⟨by simp [m.len], m.nd, fun j d h => ?_⟩
  by_cases hj : i = j
  · subst hj
    rw [List.getElem?_set_self (List.getElem?_eq_some_iff.mp e0).1] at h
    cases h
    exact ⟨a, e, r⟩
  · rw [List.getElem?_set_ne hj] at h
    obtain ⟨b, e1, r1⟩ := m.cell j d h
    refine ⟨b, e1, r1.monoV t (Ext.refl _) (upd_ne fun q => hj ?_)⟩
    subst q
    obtain ⟨h1, h2⟩ := List.getElem?_eq_some_iff.mp e
    obtain ⟨h3, h4⟩ := List.getElem?_eq_some_iff.mp e1
    exact nodup_inj m.nd h1 h3 (h2.trans h4.symm)
end

/-! ### how the slots lie -/
structure RepS (K : PySem.W.Frag) (H : Hp) (ρ : List Addr) (s : Slots) (σ : L2.St) : Prop where
  len : s.length = σ.length
  get : ∀ (i : Nat) (u : U), s[i]? = some (some u) → ∃ v, σ[i]? = some (some v) ∧ RepV K H ρ u v
theorem RepS.mono {K : PySem.W.Frag} {H H' : Hp} {ρ ρ' : List Addr} {s : Slots} {σ : L2.St} (t : TX H H') (x : Ext ρ ρ') (h : RepS K H ρ s σ) : RepS K H' ρ' s σ :=
  ⟨h.len, fun i u e => by obtain ⟨v, q, r⟩ := h.get i u e; exact ⟨v, q, r.mono t x⟩⟩
theorem RepS.set {K : PySem.W.Frag} {H : Hp} {ρ : List Addr} {s : Slots} {σ : L2.St} {i : Nat} {u : U} {v : V} (h : RepS K H ρ s σ) (r : RepV K H ρ u v) : RepS K H ρ (s.set i (some u)) (σ.set i (some v)) := by
  refine ⟨by simp [h.len], fun j w e => ?_⟩
  by_cases hj : i = j
  · subst hj
    have hl : i < s.length := by
      have := (List.getElem?_eq_some_iff.mp e).1
      simpa using this
    rw [List.getElem?_set_self hl] at e
    cases e
    exact ⟨v, List.getElem?_set_self (h.len ▸ hl), r⟩
  · rw [List.getElem?_set_ne hj] at e
    obtain ⟨x, q, r'⟩ := h.get j w e
    exact ⟨x, by rw [List.getElem?_set_ne hj]; exact q, r'⟩

/-! ### a step of the heap -/
structure Stp (K : PySem.W.Frag) (ρ : List Addr) (H : Hp) (ρ' : List Addr) (H' : Hp) (μ' : Mem) : Prop where
  ext : Ext ρ ρ'
  tx : TX H H'
  mem : RepM K H' ρ' μ'
section
variable {K : PySem.W.Frag} {H H1 H2 : Hp} {ρ ρ1 ρ2 : List Addr} {μ μ1 μ2 : Mem}
theorem Stp.refl (m : RepM K H ρ μ) : Stp K ρ H ρ H μ := ⟨Ext.refl _, TX.refl _, m⟩
theorem Stp.trans (a : Stp K ρ H ρ1 H1 μ1) (b : Stp K ρ1 H1 ρ2 H2 μ2) : Stp K ρ H ρ2 H2 μ2 := ⟨a.ext.trans b.ext, a.tx.trans b.tx, b.mem⟩
theorem Stp.temp (m : RepM K H ρ μ) {p : Addr} {o : HO} (h : H p = none) : Stp K ρ H ρ (upd H p o) μ := ⟨Ext.refl _, TX.new h, m.temp h⟩
theorem Stp.new (m : RepM K H ρ μ) {p : Addr} {o : HO} {c : Cell} (h : H p = none) (r : RepC K (upd H p o) (ρ ++ [p]) c p) : Stp K ρ H (ρ ++ [p]) (upd H p o) (μ ++ [c]) := ⟨Ext.snoc ρ p, TX.new h, m.new h r⟩
theorem RepM.put (m : RepM K H ρ μ) {i : Nat} {a : Addr} {o : HO} {c c0 : Cell} (e : ρ[i]? = some a) (h0 : μ[i]? = some c0) (hs : c0.soft = true) (r : RepC K (upd H a o) ρ c a) : RepM K (upd H a o) ρ (μ.set i c) :=
  m.putV ((m.get e h0).tx hs).tv e r
theorem Stp.put (m : RepM K H ρ μ) {i : Nat} {a : Addr} {o : HO} {c c0 : Cell} (e : ρ[i]? = some a) (h0 : μ[i]? = some c0) (hs : c0.soft = true) (r : RepC K (upd H a o) ρ c a) : Stp K ρ H ρ (upd H a o) (μ.set i c) :=
  ⟨Ext.refl _, (m.get e h0).tx hs, m.put e h0 hs r⟩
theorem Stp.v (t : Stp K ρ H ρ1 H1 μ1) {u : U} {v : V} (h : RepV K H ρ u v) : RepV K H1 ρ1 u v := h.mono t.tx t.ext
theorem Stp.vs (t : Stp K ρ H ρ1 H1 μ1) {u : List U} {v : List V} (h : RepVs K H ρ u v) : RepVs K H1 ρ1 u v := h.mono t.tx t.ext
theorem Stp.s (t : Stp K ρ H ρ1 H1 μ1) {u : Slots} {v : L2.St} (h : RepS K H ρ u v) : RepS K H1 ρ1 u v := h.mono t.tx t.ext
end

/-! ### what is wanted behind -/
abbrev RelT (α β : Type) := PySem.W.Frag → Hp → List Addr → α → β → Prop
def relV : RelT U V := RepV
def relVs : RelT (List U) (List V) := RepVs
def relB : RelT Bool Bool := fun _ _ _ a b => a = b
def relO : RelT (Option Int) (Option Int) := fun _ _ _ a b => a = b
def Post {α β : Type} (X : Cx) (W : WX) (σ : L2.St) (rel : RelT α β) (ρ : List Addr) (H : Hp) (r : Res α) (Q : β → Hp → Prop) : Prop := match r with
  | .ok u μ' => ∀ v H' ρ', Stp X.K ρ H ρ' H' μ' → rel X.K H' ρ' u v → Q v H'
  | .ex c μ' => ∀ cls H' ρ', Stp X.K ρ H ρ' H' μ' → X.mg c = some cls → W cls none σ H'
  | .bad => False
theorem Post.bind {α β γ δ : Type} {X : Cx} {W : WX} {σ : L2.St} {rel1 : RelT α β} {rel2 : RelT γ δ} {ρ : List Addr} {H : Hp} {r : Res α} {k : α → Mem → Res γ} {Q : δ → Hp → Prop} {Q1 : β → Hp → Prop}
    (h : Post X W σ rel2 ρ H (r.bind k) Q) (hk : ∀ a μ1 x H1 ρ1, Stp X.K ρ H ρ1 H1 μ1 → rel1 X.K H1 ρ1 a x → Post X W σ rel2 ρ1 H1 (k a μ1) Q → Q1 x H1) : Post X W σ rel1 ρ H r Q1 := by
  cases r with
  | ok a m =>
    intro v H' ρ' t q
    refine hk a m v H' ρ' t q ?_
    have h' : Post X W σ rel2 ρ H (k a m) Q := h
    generalize k a m = z at h'
    cases z with
    | ok b m2 => exact fun v2 H2 ρ2 t2 q2 => h' v2 H2 ρ2 (t.trans t2) q2
    | ex c m2 => exact fun cls H2 ρ2 t2 e => h' cls H2 ρ2 (t.trans t2) e
    | bad => exact h'
  | ex c m => exact h
  | bad => exact h
theorem Post.ok {α β : Type} {X : Cx} {W : WX} {σ : L2.St} {rel : RelT α β} {ρ ρ' : List Addr} {H H' : Hp} {u : α} {v : β} {μ' : Mem} {Q : β → Hp → Prop} (h : Post X W σ rel ρ H (.ok u μ') Q) (t : Stp X.K ρ H ρ' H' μ') (r : rel X.K H' ρ' u v) : Q v H' := h v H' ρ' t r

/-! ### an expression, a test, arguments -/
def WE (X : Cx) (e : Expr) : TE := fun σ H Q => ∃ t, PE X e t ∧ t σ H Q
theorem pe_w {X : Cx} {e : Expr} : PE X e (WE X e) := ⟨fun pins s σ H Q I ⟨_, h, q⟩ => h.run pins s σ H Q I q⟩
def WT (X : Cx) (e : Expr) : TT := fun σ H Q => ∃ t, PT X e t ∧ t σ H Q
theorem pt_w {X : Cx} {e : Expr} : PT X e (WT X e) := ⟨fun pins s σ H Q I ⟨_, h, q⟩ => h.run pins s σ H Q I q⟩
def WA (X : Cx) (es : List Expr) : TA := fun σ H Q => ∃ t, PA X es t ∧ t σ H Q
theorem pa_w {X : Cx} {es : List Expr} : PA X es (WA X es) := ⟨fun pos pins s σ H Q I ⟨_, h, q⟩ => h.run pos pins s σ H Q I q⟩
def OpW (X : Cx) (f : Value → Value → Sem Value) : R2 := fun x y H Q => ∃ r, OpR X f r ∧ r x y H Q
theorem op_w {X : Cx} {f : Value → Value → Sem Value} : OpR X f (OpW X f) := fun pins s σ H x y v u Q I rx ry ⟨_, h, q⟩ => h pins s σ H x y v u Q I rx ry q
def IxW (X : Cx) : R2 := fun x y H Q => ∃ r, IxR X r ∧ r x y H Q
theorem ix_w {X : Cx} : IxR X (IxW X) := fun value slice pins s σ H x y v u Q I rx ry ⟨_, h, q⟩ hs => h value slice pins s σ H x y v u Q I rx ry q hs

def CE (X : Cx) (W : WX) (e : Expr) (m : FE) : Prop := ∀ ρ μ s σ H Q, RepS X.K H ρ s σ → RepM X.K H ρ μ → Post X W σ relV ρ H (m s μ) Q → WE X e σ H Q
def CT (X : Cx) (W : WX) (e : Expr) (m : FT) : Prop := ∀ ρ μ s σ H Q, RepS X.K H ρ s σ → RepM X.K H ρ μ → Post X W σ relB ρ H (m s μ) Q → WT X e σ H Q
def CA (X : Cx) (W : WX) (es : List Expr) (m : FA) : Prop := ∀ ρ μ s σ H Q, RepS X.K H ρ s σ → RepM X.K H ρ μ → Post X W σ relVs ρ H (m s μ) Q → WA X es σ H Q

/-- what holds of a context: nothing is handled, k calls have room, W takes what is raised -/
structure Good (X : Cx) (W : WX) (k : Nat) : Prop where
  calm : X.calm = true
  room : Room k X.A
  tk : Takes X W
  po : PassesOwn (model X.prog X.w) X.A X.env X.xe

section
variable {X : Cx} {W : WX} {k : Nat}
/-! names and constants -/
def fVar (i : Nat) : FE := fun s μ => match s[i]? with
  | some (some u) => .ok u μ
  | _ => .bad
theorem ce_var (i : Nat) {x : Str} {pos : Pos} (hN : X.N[i]? = some x := by rfl) (hv : Vis X.env.scope x := by first | exact Or.inl rfl | exact Or.inr (Or.inl rfl) | exact Or.inr (Or.inr rfl)) (hd : (x == ("__debug__" : Str)) = false := by decide)
    (hcd : (x == ("__classdict__" : Str)) = false := by decide) : CE X W (.Name x pos) (fVar i) := by
  intro ρ μ s σ H Q hs hm h
  refine ⟨tVar i, pe_var hN hv hd hcd, ?_⟩
  unfold fVar at h
  cases e : s[i]? with
  | none => rw [e] at h; exact h.elim
  | some o =>
    cases o with
    | none => rw [e] at h; exact h.elim
    | some u =>
      rw [e] at h
      obtain ⟨v, q, r⟩ := hs.get i u e
      exact ⟨v, q, h.ok (Stp.refl hm) r⟩
def fC (u : U) : FE := fun _ μ => .ok u μ
theorem ce_int {i : Int} {j : Nat} {pos : Pos} : CE X W (.Constant (.int i) j pos) (fC (.int i)) := fun ρ μ s σ H Q hs hm h => ⟨_, pe_int, h.ok (Stp.refl hm) .int⟩
theorem ce_bl {b : Bool} {j : Nat} {pos : Pos} : CE X W (.Constant (.bool b) j pos) (fC (.bl b)) := fun ρ μ s σ H Q hs hm h => ⟨_, pe_bl, h.ok (Stp.refl hm) .bl⟩
theorem ce_non {j : Nat} {pos : Pos} : CE X W (.Constant .none j pos) (fC .non) := fun ρ μ s σ H Q hs hm h => ⟨_, pe_non, h.ok (Stp.refl hm) .non⟩
theorem ce_str {x : Str} {j : Nat} {pos : Pos} (hx : PyData.strOk x = true := by decide +kernel) : CE X W (.Constant (.str x) j pos) (fC (.str x)) := fun ρ μ s σ H Q hs hm h => ⟨_, pe_str, h.ok (Stp.refl hm) (.str hx)⟩
/-- a constant of the module -/
theorem ce_glob {x : Str} {u : U} {v : V} {z : Value} {pos : Pos} (hg : Gl X x) (hm : X.mg x = some z) (r : RelV v z) (q : ∀ H ρ, RepV X.K H ρ u v) (hd : (x == ("__debug__" : Str)) = false := by decide) : CE X W (.Name x pos) (fC u) :=
  fun ρ μ s σ H Q hs hm' h => ⟨_, pe_glob hg hm r hd, h.ok (Stp.refl hm') (q H ρ)⟩

/-! two-place operations -/
def fOp (f : U → U → Mem → Res U) (a b : FE) : FE := fun s μ => (a s μ).bind fun u μ1 => (b s μ1).bind fun w μ2 => f u w μ2
def OpS (X : Cx) (W : WX) (g : Value → Value → Sem Value) (f : U → U → Mem → Res U) : Prop := ∀ ρ μ σ H u w x y Q, RepM X.K H ρ μ → RepV X.K H ρ u x → RepV X.K H ρ w y → Post X W σ relV ρ H (f u w μ) Q → OpW X g x y H Q
theorem ce_op {op : Operator} {a b : Expr} {f : U → U → Mem → Res U} {ma mb : FE} {pos : Pos} (ho : OpS X W (binaryOp op) f) (ha : CE X W a ma) (hb : CE X W b mb) : CE X W (.BinOp a op b pos) (fOp f ma mb) := by
  intro ρ μ s σ H Q hs hm h
  refine ⟨_, pe_op op_w pe_w pe_w, ?_⟩
  refine ha ρ μ s σ H _ hs hm (h.bind fun u μ1 x H1 ρ1 t1 r1 h1 => ?_)
  refine hb ρ1 μ1 s σ H1 _ (t1.s hs) t1.mem (h1.bind fun w μ2 y H2 ρ2 t2 r2 h2 => ?_)
  exact ho ρ2 μ2 σ H2 u w x y Q t2.mem (t2.v r1) r2 h2
theorem ce_cmp {op : CmpOp} {a b : Expr} {f : U → U → Mem → Res U} {ma mb : FE} {pos : Pos} (ho : OpS X W (compareOp op) f) (ha : CE X W a ma) (hb : CE X W b mb) (hm0 : behindInMarks op b = false) : CE X W (.Compare a [op] [b] pos) (fOp f ma mb) := by
  intro ρ μ s σ H Q hs hm h
  refine ⟨_, pe_cmpR op_w pe_w pe_w hm0, ?_⟩
  refine ha ρ μ s σ H _ hs hm (h.bind fun u μ1 x H1 ρ1 t1 r1 h1 => ?_)
  refine hb ρ1 μ1 s σ H1 _ (t1.s hs) t1.mem (h1.bind fun w μ2 y H2 ρ2 t2 r2 h2 => ?_)
  exact ho ρ2 μ2 σ H2 u w x y Q t2.mem (t2.v r1) r2 h2
end
end Dg
/-! Dg2: operators, comparisons, tests, displays, calls of built-ins by value. -/
namespace Dg
open PySem PySem.Spec PyProof.Rows L2

def lim : Nat := 16777216
theorem lim_le {n : Nat} (h : n ≤ lim) : n ≤ sizeLine := h
theorem lim_lt {n : Nat} (h : n < lim) : n < sizeLine := h

/-! ### data of a value (for ==) -/
mutual
def toD (g : Nat → Option PyData) : U → Option PyData
  | .non => some .none
  | .bl b => some (.bool b)
  | .int i => some (.int i)
  | .str s => some (.str s)
  | .tup us => (toDs g us).map .tuple
  | .ref i => g i
  | .frl us => (toDs g us).map .list
def toDs (g : Nat → Option PyData) : List U → Option (List PyData)
  | [] => some []
  | u :: us => match toD g u, toDs g us with
    | some d, some ds => some (d :: ds)
    | _, _ => none
end
def refD (μ : Mem) : Nat → Nat → Option PyData
  | 0, _ => none
  | n + 1, i => match μ[i]? with
    | some (.lst us) => (toDs (refD μ n) us).map .list
    | _ => none
def datU (μ : Mem) (u : U) : Option PyData := toD (refD μ 6) u

def DOk (K : PySem.W.Frag) (H : Hp) (ρ : List Addr) (g : Nat → Option PyData) : Prop := ∀ i a d, ρ[i]? = some a → g i = some d → Dp K H (.ref a) d ∧ d.canLay0 = true
section
variable {K : PySem.W.Frag} {H : Hp} {ρ : List Addr} {μ : Mem} {g : Nat → Option PyData}
mutual
theorem toD_ok (hg : DOk K H ρ g) : ∀ (u : U) (v : V) (d : PyData), RepV K H ρ u v → toD g u = some d → Dp K H v d ∧ d.canLay0 = true
  | .non, _, _, h, e => by
    cases h
    simp only [toD, Option.some.injEq] at e
    subst e
    exact ⟨.non, rfl⟩
  | .bl b, _, _, h, e => by
    cases h
    simp only [toD, Option.some.injEq] at e
    subst e
    exact ⟨.bl _, rfl⟩
  | .int i, _, _, h, e => by
    cases h
    simp only [toD, Option.some.injEq] at e
    subst e
    exact ⟨.int _, rfl⟩
  | .str s, _, _, h, e => by
    cases h with
    | str hs =>
      simp only [toD, Option.some.injEq] at e
      subst e
      exact ⟨.str _, by simpa [PyData.canLay0] using hs⟩
  | .tup us, _, _, h, e => by
    cases h with
    | tup hs hr =>
      simp only [toD, Option.map_eq_some_iff] at e
      obtain ⟨ds, e1, rfl⟩ := e
      obtain ⟨h1, h2⟩ := toDs_ok hg us _ ds hr e1
      exact ⟨.tup hs h1, by simpa [PyData.canLay0] using h2⟩
  | .ref i, _, _, h, e => by
    cases h with
    | ref hr =>
      simp only [toD] at e
      exact hg i _ _ hr e
  | .frl us, _, _, h, e => by
    cases h with
    | frl hs hr =>
      simp only [toD, Option.map_eq_some_iff] at e
      obtain ⟨ds, e1, rfl⟩ := e
      obtain ⟨h1, h2⟩ := toDs_ok hg us _ ds hr e1
      exact ⟨.lst hs.sq h1, by simpa [PyData.canLay0] using h2⟩
theorem toDs_ok (hg : DOk K H ρ g) : ∀ (us : List U) (vs : List V) (ds : List PyData), RepVs K H ρ us vs → toDs g us = some ds → DpAll K H vs ds ∧ PyData.canLayAll0 ds = true
  | [], _, _, h, e => by
    cases h
    simp only [toDs, Option.some.injEq] at e
    subst e
    exact ⟨.nil, rfl⟩
  | u :: us, _, _, h, e => by
    cases h with
    | cons h1 h2 =>
      simp only [toDs] at e
      cases e1 : toD g u with
      | none => rw [e1] at e; cases e
      | some d =>
        cases e2 : toDs g us with
        | none => rw [e1, e2] at e; cases e
        | some ds =>
          rw [e1, e2] at e
          cases e
          obtain ⟨a1, a2⟩ := toD_ok hg u _ d h1 e1
          obtain ⟨b1, b2⟩ := toDs_ok hg us _ ds h2 e2
          exact ⟨.cons a1 b1, by simp [PyData.canLayAll0, a2, b2]⟩
end
theorem refD_ok (m : RepM K H ρ μ) : ∀ n, DOk K H ρ (refD μ n)
  | 0, _, _, _, _, e => by simp [refD] at e
  | n + 1, i, a, d, hi, e => by
    obtain ⟨c, hc, r⟩ := m.at hi
    simp only [refD, hc] at e
    cases c with
    | lst us =>
      obtain ⟨vs, q, rr⟩ := r
      simp only [Option.map_eq_some_iff] at e
      obtain ⟨ds, e1, rfl⟩ := e
      obtain ⟨h1, h2⟩ := toDs_ok (refD_ok m n) us _ ds rr e1
      exact ⟨.lst (.inl (.inl q)) h1, by simpa [PyData.canLay0] using h2⟩
    | _ => cases e
theorem datU_ok (m : RepM K H ρ μ) {u : U} {v : V} {d : PyData} (r : RepV K H ρ u v) (e : datU μ u = some d) : Dp K H v d ∧ d.canLay0 = true := toD_ok (refD_ok m 6) u v d r e
end
def eqLim : Nat := 800
def eqU (u w : U) (μ : Mem) : Option Bool := match datU μ u, datU μ w with
  | some d, some e => if min d.depth e.depth ≤ eqLim then some (PyData.eqv d e) else none
  | _, _ => none
def resB (o : Option Bool) (μ : Mem) : Res U := match o with
  | some b => .ok (.bl b) μ
  | none => .bad
def uEq (u w : U) (μ : Mem) : Res U := resB (eqU u w μ) μ
def uNe (u w : U) (μ : Mem) : Res U := resB ((eqU u w μ).map not) μ

section
variable {X : Cx} {W : WX} {k : Nat}
def rEqL (K : PySem.W.Frag) : R2 := fun x y H Q => ∃ d e, Dp K H x d ∧ Dp K H y e ∧ d.canLay0 = true ∧ e.canLay0 = true ∧ min d.depth e.depth ≤ eqLim ∧ Q (.bl (PyData.eqv d e)) H
def rNeL (K : PySem.W.Frag) : R2 := fun x y H Q => ∃ d e, Dp K H x d ∧ Dp K H y e ∧ d.canLay0 = true ∧ e.canLay0 = true ∧ min d.depth e.depth ≤ eqLim ∧ Q (.bl (!PyData.eqv d e)) H
theorem op_eqL (hu : X.A.units + 800 < cLine) : OpR X (compareOp .Eq) (rEqL X.K) := by
  intro pins s σ H x y v u Q I rx ry h
  obtain ⟨d, e, hd, he, sd, se, hl, q⟩ := h
  obtain ⟨as, r1⟩ := Dp.reads I d x v hd rx
  obtain ⟨bs, r2⟩ := Dp.reads I e y u he ry
  exact SeqAt.compareEq_reads r1 r2 sd se (Nat.lt_of_le_of_lt (Nat.add_le_add_left hl _) hu) ⟨.bl _, H, I, rfl, q⟩
theorem op_neL (hu : X.A.units + 800 < cLine) : OpR X (compareOp .NotEq) (rNeL X.K) := by
  intro pins s σ H x y v u Q I rx ry h
  obtain ⟨d, e, hd, he, sd, se, hl, q⟩ := h
  obtain ⟨as, r1⟩ := Dp.reads I d x v hd rx
  obtain ⟨bs, r2⟩ := Dp.reads I e y u he ry
  exact SeqAt.compareNe_reads r1 r2 sd se (Nat.lt_of_le_of_lt (Nat.add_le_add_left hl _) hu) ⟨.bl _, H, I, rfl, q⟩
/-- levels are counted from 40 on -/
theorem Good.un (G : Good X W (k + 40)) : X.A.units + 800 < cLine := by
  have := G.room.un
  omega
theorem Good.hu (G : Good X W (k + 40)) : X.A.units + 1 < cLine := by
  have := G.room.un
  omega
theorem os_eq (G : Good X W (k + 40)) : OpS X W (compareOp .Eq) uEq := by
  intro ρ μ σ H u w x y Q hm ru rw' h
  unfold uEq eqU at h
  cases e1 : datU μ u with
  | none => rw [e1] at h; exact h.elim
  | some d =>
    cases e2 : datU μ w with
    | none => rw [e1, e2] at h; exact h.elim
    | some e =>
      rw [e1, e2] at h
      obtain ⟨a1, a2⟩ := datU_ok hm ru e1
      obtain ⟨b1, b2⟩ := datU_ok hm rw' e2
      by_cases hl : min d.depth e.depth ≤ eqLim
      · simp only [hl, if_true, resB] at h
        exact ⟨_, op_eqL G.un, d, e, a1, b1, a2, b2, hl, h.ok (Stp.refl hm) .bl⟩
      · simp only [hl, if_false, resB] at h
        exact h.elim
theorem os_ne (G : Good X W (k + 40)) : OpS X W (compareOp .NotEq) uNe := by
  intro ρ μ σ H u w x y Q hm ru rw' h
  unfold uNe eqU at h
  cases e1 : datU μ u with
  | none => rw [e1] at h; exact h.elim
  | some d =>
    cases e2 : datU μ w with
    | none => rw [e1, e2] at h; exact h.elim
    | some e =>
      rw [e1, e2] at h
      obtain ⟨a1, a2⟩ := datU_ok hm ru e1
      obtain ⟨b1, b2⟩ := datU_ok hm rw' e2
      by_cases hl : min d.depth e.depth ≤ eqLim
      · simp only [hl, if_true, Option.map_some, resB] at h
        exact ⟨_, op_neL G.un, d, e, a1, b1, a2, b2, hl, h.ok (Stp.refl hm) .bl⟩
      · simp only [hl, if_false, Option.map_none, resB] at h
        exact h.elim

/-! ### arithmetic -/
def big64 (i : Int) : Bool := decide (-(2 ^ 64) < i ∧ i < 2 ^ 64)
def uAdd (u w : U) (μ : Mem) : Res U := match u, w with
  | .int i, .int j => .ok (.int (i + j)) μ
  | .str a, .str b => if a.length + b.length ≤ lim then .ok (.str (a ++ b)) μ else .bad
  | .ref a, .ref b => match μ[a]?, μ[b]? with
    | some (.lst xs), some (.lst ys) => if xs.length + ys.length ≤ lim then .ok (.ref μ.length) (μ ++ [.lst (xs ++ ys)]) else .bad
    | _, _ => .bad
  | .tup (x :: xs), .tup ys => if (x :: xs).length + ys.length ≤ lim then .ok (.tup (x :: xs ++ ys)) μ else .bad
  | .tup [], .tup ys => .ok (.tup ys) μ
  | _, _ => .bad
theorem strOk_append {a b : Str} (ha : PyData.strOk a = true) (hb : PyData.strOk b = true) : PyData.strOk (a ++ b) = true := by
  show ((a.cps ++ b.cps).all _) = true
  rw [Array.all_append]
  exact Bool.and_eq_true_iff.mpr ⟨ha, hb⟩
theorem lst_of {K : PySem.W.Frag} {H : Hp} {ρ : List Addr} {μ : Mem} (hm : RepM K H ρ μ) {i : Nat} {a : Addr} {us : List U} (e : ρ[i]? = some a) (h : μ[i]? = some (.lst us)) : ∃ vs, H a = some (.lst vs) ∧ RepVs K H ρ us vs := hm.get e h
theorem newL {K : PySem.W.Frag} {H : Hp} {ρ : List Addr} {μ : Mem} (hm : RepM K H ρ μ) {p : Addr} {us : List U} {vs : List V} (np : H p = none) (r : RepVs K H ρ us vs) : Stp K ρ H (ρ ++ [p]) (upd H p (.lst vs)) (μ ++ [.lst us]) :=
  Stp.new hm np ⟨vs, upd_same, r.mono (TX.new np) (Ext.snoc ρ p)⟩
theorem refN {K : PySem.W.Frag} {H : Hp} {ρ : List Addr} {μ : Mem} (hm : RepM K H ρ μ) {p : Addr} {H' : Hp} : RepV K H' (ρ ++ [p]) (.ref μ.length) (.ref p) := .ref (by rw [← hm.len, List.getElem?_append_right (Nat.le_refl _)]; simp)
theorem newT {K : PySem.W.Frag} {H : Hp} {ρ : List Addr} {p : Addr} {us : List U} {vs : List V} (np : H p = none) (r : RepVs K H ρ us vs) : RepV K (upd H p (.tup vs)) ρ (.tup us) (.ref p) :=
  .tup (.inl (.inl upd_same)) (r.mono (TX.new np) (Ext.refl _))
theorem os_add : OpS X W (binaryOp .Add) uAdd := by
  intro ρ μ σ H u w x y Q hm ru rw' h
  unfold uAdd at h
  split at h
  · cases ru; cases rw'
    exact ⟨_, op_add, _, _, rfl, rfl, h.ok (Stp.refl hm) .int⟩
  · cases ru with
    | str sa =>
      cases rw' with
      | str sb =>
        split at h
        · exact ⟨_, op_add_str, _, _, rfl, rfl, lim_le (by assumption), h.ok (Stp.refl hm) (.str (strOk_append sa sb))⟩
        · exact h.elim
  · split at h
    · rename_i a b _ _ xs ys e1 e2
      cases ru with
      | ref ra =>
        cases rw' with
        | ref rb =>
          split at h
          · obtain ⟨vs, q1, r1⟩ := lst_of hm ra e1
            obtain ⟨ws, q2, r2⟩ := lst_of hm rb e2
            have hl : vs.length + ws.length ≤ sizeLine := by
              rw [← r1.length, ← r2.length]
              exact lim_le (by assumption)
            exact ⟨_, op_cat, _, _, vs, ws, rfl, rfl, q1, q2, hl, fun p np => h.ok (newL hm np (r1.append r2)) (refN hm)⟩
          · exact h.elim
    · exact h.elim
  · cases ru with
    | tup s1 r1 =>
      cases rw' with
      | tup s2 r2 =>
        split at h
        · rename_i hz
          refine ⟨_, op_catT, _, _, _, _, rfl, rfl, s1, s2, ?_, ?_, fun e => ?_, fun e p np => h.ok (Stp.temp hm np) (newT np (r1.append r2))⟩
          · intro e; subst e; cases r1
          · rw [← r1.length, ← r2.length]; exact lim_le hz
          · subst e
            cases r2
            rw [List.append_nil] at h
            exact h.ok (Stp.refl hm) (.tup s1 r1)
        · exact h.elim
  · cases ru with
    | tup s1 r1 =>
      cases r1
      cases rw' with
      | tup s2 r2 => exact ⟨_, op_cat0, _, _, _, rfl, rfl, s1, s2, h.ok (Stp.refl hm) (.tup s2 r2)⟩
  · exact h.elim
def uSub (u w : U) (μ : Mem) : Res U := match u, w with
  | .int i, .int j => .ok (.int (i - j)) μ
  | _, _ => .bad
theorem os_sub : OpS X W (binaryOp .Sub) uSub := by
  intro ρ μ σ H u w x y Q hm ru rw' h
  unfold uSub at h
  split at h
  · cases ru; cases rw'
    exact ⟨_, op_sub, _, _, rfl, rfl, h.ok (Stp.refl hm) .int⟩
  · exact h.elim
def repU (n : Nat) (xs : List U) : List U := (List.replicate n xs).flatten
theorem RepVs.rep {K : PySem.W.Frag} {H : Hp} {ρ : List Addr} {us : List U} {vs : List V} (r : RepVs K H ρ us vs) : ∀ n : Nat, RepVs K H ρ (repU n us) (List.replicate n vs).flatten
  | 0 => .nil
  | n + 1 => by
    have ih := RepVs.rep r n
    unfold repU at *
    rw [List.replicate_succ, List.replicate_succ, List.flatten_cons, List.flatten_cons]
    exact r.append ih
def uMul (u w : U) (μ : Mem) : Res U := match u, w with
  | .int i, .int j => if big64 i || big64 j then .ok (.int (i * j)) μ else .bad
  | .ref a, .int n => match μ[a]? with
    | some (.lst xs) => if -(2 ^ 63) ≤ n ∧ n < 2 ^ 63 ∧ xs.length * n.toNat ≤ lim then .ok (.ref μ.length) (μ ++ [.lst (repU n.toNat xs)]) else .bad
    | _ => .bad
  | .tup xs, .int n => if -1000 ≤ n ∧ n ≤ 1000 ∧ xs.length ≤ 1000 then .ok (.tup (repU n.toNat xs)) μ else .bad
  | _, _ => .bad
theorem os_mul : OpS X W (binaryOp .Mult) uMul := by
  intro ρ μ σ H u w x y Q hm ru rw' h
  unfold uMul at h
  split at h
  · cases ru; cases rw'
    split at h
    · rename_i hb
      refine ⟨_, op_mul, _, _, rfl, rfl, ?_, h.ok (Stp.refl hm) .int⟩
      rcases Bool.or_eq_true_iff.mp hb with e | e
      · exact .inl (of_decide_eq_true e)
      · exact .inr (of_decide_eq_true e)
    · exact h.elim
  · split at h
    · rename_i xs e1
      cases ru with
      | ref ra =>
        cases rw'
        split at h
        · rename_i hz
          obtain ⟨vs, q1, r1⟩ := lst_of hm ra e1
          exact ⟨_, op_rep, _, _, vs, rfl, rfl, q1, hz.1, hz.2.1, by rw [← r1.length]; exact lim_le hz.2.2, fun p np => h.ok (newL hm np (r1.rep _)) (refN hm)⟩
        · exact h.elim
    · exact h.elim
  · rename_i xs n
    split at h
    · rename_i hz
      cases rw'
      cases ru with
      | tup s1 r1 =>
        rename_i a vs
        by_cases h0 : xs = []
        · subst h0
          cases r1
          have e : repU n.toNat ([] : List U) = [] := by simp [repU]
          rw [e] at h
          exact ⟨_, op_repT1, _, _, _, rfl, rfl, s1, .inl rfl, by omega, by omega, h.ok (Stp.refl hm) (.tup s1 .nil)⟩
        · have hv : vs ≠ [] := fun e => by subst e; cases r1; exact h0 rfl
          by_cases h1 : n = 1
          · subst h1
            have e : repU (1 : Int).toNat xs = xs := by simp [repU]
            rw [e] at h
            exact ⟨_, op_repT1, _, _, _, rfl, rfl, s1, .inr rfl, by omega, by omega, h.ok (Stp.refl hm) (.tup s1 r1)⟩
          · by_cases h2 : n ≤ 0
            · have e : repU n.toNat xs = [] := by rw [Int.toNat_of_nonpos h2]; rfl
              rw [e] at h
              exact ⟨_, op_repT0, _, _, _, rfl, rfl, s1, hv, by omega, h2, fun p np => h.ok (Stp.temp hm np) (newT np .nil)⟩
            · exact ⟨_, op_repT, _, _, _, rfl, rfl, s1, hv, by omega, by omega, by rw [← r1.length]; exact hz.2.2, fun p np => h.ok (Stp.temp hm np) (newT np (r1.rep _))⟩
    · exact h.elim
  · exact h.elim
def uFdiv (u w : U) (μ : Mem) : Res U := match u, w with
  | .int i, .int j => if j ≠ 0 ∧ j.natAbs < 1073741824 then .ok (.int (i.fdiv j)) μ else .bad
  | _, _ => .bad
theorem os_fdiv : OpS X W (binaryOp .FloorDiv) uFdiv := by
  intro ρ μ σ H u w x y Q hm ru rw' h
  unfold uFdiv at h
  split at h
  · cases ru; cases rw'
    split at h
    · exact ⟨_, op_fdivN, _, _, rfl, rfl, by assumption, h.ok (Stp.refl hm) .int⟩
    · exact h.elim
  · exact h.elim
def uMod (u w : U) (μ : Mem) : Res U := match u, w with
  | .int i, .int j => if j ≠ 0 then .ok (.int (i.fmod j)) μ else .bad
  | _, _ => .bad
theorem os_mod : OpS X W (binaryOp .Mod) uMod := by
  intro ρ μ σ H u w x y Q hm ru rw' h
  unfold uMod at h
  split at h
  · cases ru; cases rw'
    split at h
    · exact ⟨_, op_modN, _, _, rfl, rfl, by assumption, h.ok (Stp.refl hm) .int⟩
    · exact h.elim
  · exact h.elim
def uPow (u w : U) (μ : Mem) : Res U := match u, w with
  | .int i, .int j => if 0 ≤ j ∧ j ≤ 1000000 ∧ i.natAbs < 2 ^ 64 then .ok (.int (i ^ j.toNat)) μ else .bad
  | _, _ => .bad
theorem os_pow : OpS X W (binaryOp .Pow) uPow := by
  intro ρ μ σ H u w x y Q hm ru rw' h
  unfold uPow at h
  split at h
  · cases ru; cases rw'
    split at h
    · exact ⟨_, op_pow, _, _, rfl, rfl, by assumption, h.ok (Stp.refl hm) .int⟩
    · exact h.elim
  · exact h.elim
def fNeg (a : FE) : FE := fun s μ => (a s μ).bind fun u μ1 => match u with
  | .int i => .ok (.int (-i)) μ1
  | _ => .bad
theorem ce_neg {a : Expr} {ma : FE} {pos : Pos} (ha : CE X W a ma) : CE X W (.UnaryOp .USub a pos) (fNeg ma) := by
  intro ρ μ s σ H Q hs hm h
  refine ⟨_, pe_un un_neg pe_w, ?_⟩
  refine ha ρ μ s σ H _ hs hm (h.bind fun u μ1 x H1 ρ1 t1 r1 h1 => ?_)
  split at h1
  · cases r1
    exact ⟨_, rfl, h1.ok (Stp.refl t1.mem) .int⟩
  · exact h1.elim

/-! ### comparisons -/
def uCmp (p : Int → Int → Bool) (q : Str → Str → Option Bool) (u w : U) (μ : Mem) : Res U := match u, w with
  | .int i, .int j => .ok (.bl (p i j)) μ
  | .str a, .str b => resB (q a b) μ
  | _, _ => .bad
def strLt (a b : Str) : Bool := PySem.Spec.ltCps a.cps.toList b.cps.toList
def uLt : U → U → Mem → Res U := uCmp (fun i j => decide (i < j)) fun a b => some (strLt a b)
def uLe : U → U → Mem → Res U := uCmp (fun i j => decide (i ≤ j)) fun a b => some (!strLt b a)
def uGt : U → U → Mem → Res U := uCmp (fun i j => decide (j < i)) fun _ _ => none
def uGe : U → U → Mem → Res U := uCmp (fun i j => decide (j ≤ i)) fun _ _ => none
theorem os_cmp {op : CmpOp} {p : Int → Int → Bool} {q : Str → Str → Option Bool} (h1 : OpR X (compareOp op) (rI0 fun i j => .bl (p i j)))
    (h2 : ∀ a b c, q a b = some c → OpR X (compareOp op) (fun x y H Q => x = .str a ∧ y = .str b ∧ Q (.bl c) H)) : OpS X W (compareOp op) (uCmp p q) := by
  intro ρ μ σ H u w x y Q hm ru rw' h
  unfold uCmp at h
  split at h
  · cases ru; cases rw'
    exact ⟨_, h1, _, _, rfl, rfl, h.ok (Stp.refl hm) .bl⟩
  · rename_i a b
    cases ru; cases rw'
    cases e : q a b with
    | none => rw [e] at h; exact h.elim
    | some c =>
      rw [e] at h
      exact ⟨_, h2 a b c e, rfl, rfl, h.ok (Stp.refl hm) .bl⟩
  · exact h.elim
theorem os_lt : OpS X W (compareOp .Lt) uLt := os_cmp op_lt fun a b c e => by
  cases e
  intro pins s σ H x y v u Q I rx ry ⟨ex, ey, q⟩
  exact op_lt_str pins s σ H x y v u Q I rx ry ⟨a, b, ex, ey, by rw [← PyProof.Rows.ltCps_eq]; exact q⟩
theorem os_le : OpS X W (compareOp .LtE) uLe := os_cmp op_le fun a b c e => by
  cases e
  intro pins s σ H x y v u Q I rx ry ⟨ex, ey, q⟩
  exact op_le_str pins s σ H x y v u Q I rx ry ⟨a, b, ex, ey, by rw [← PyProof.Rows.ltCps_eq]; exact q⟩
theorem os_gt : OpS X W (compareOp .Gt) uGt := os_cmp op_gt fun a b c e => nomatch e
theorem os_ge : OpS X W (compareOp .GtE) uGe := os_cmp op_ge fun a b c e => nomatch e
def uIsN (u w : U) (μ : Mem) : Res U := match w, u with
  | .non, .non => .ok (.bl true) μ
  | .non, _ => .ok (.bl false) μ
  | _, _ => .bad
def uNotN (u w : U) (μ : Mem) : Res U := match w, u with
  | .non, .non => .ok (.bl false) μ
  | .non, _ => .ok (.bl true) μ
  | _, _ => .bad
theorem os_isN : OpS X W (compareOp .Is) uIsN := by
  intro ρ μ σ H u w x y Q hm ru rw' h
  unfold uIsN at h
  split at h
  · cases ru; cases rw'
    exact ⟨_, op_isN, rfl, h.ok (Stp.refl hm) .bl⟩
  · rename_i hn
    cases rw'
    have e : decide (x = V.non) = false := decide_eq_false (fun q => by subst q; cases ru; exact hn rfl)
    exact ⟨_, op_isN, rfl, by rw [e]; exact h.ok (Stp.refl hm) .bl⟩
  · exact h.elim
theorem os_notN : OpS X W (compareOp .IsNot) uNotN := by
  intro ρ μ σ H u w x y Q hm ru rw' h
  unfold uNotN at h
  split at h
  · cases ru; cases rw'
    exact ⟨_, op_notN, rfl, h.ok (Stp.refl hm) .bl⟩
  · rename_i hn
    cases rw'
    have e : decide (x = V.non) = false := decide_eq_false (fun q => by subst q; cases ru; exact hn rfl)
    exact ⟨_, op_notN, rfl, by rw [e]; exact h.ok (Stp.refl hm) .bl⟩
  · exact h.elim
/-- a < b < c -/
def fChain (f g : U → U → Mem → Res U) (a b c : FE) : FE := fun s μ => (a s μ).bind fun x μ1 => (b s μ1).bind fun y μ2 => (f x y μ2).bind fun z μ3 => match z with
  | .bl true => (c s μ3).bind fun w μ4 => g y w μ4
  | .bl false => .ok (.bl false) μ3
  | _ => .bad
theorem ce_chain {op op' : CmpOp} {a b c : Expr} {f g : U → U → Mem → Res U} {ma mb mc : FE} {pos : Pos} (ho : OpS X W (compareOp op) f) (ho' : OpS X W (compareOp op') g) (ha : CE X W a ma) (hb : CE X W b mb) (hc : CE X W c mc)
    (hch : ∀ {r r' : R2} {ta tb tc : TE}, OpR X (compareOp op) r → OpR X (compareOp op') r' → PE X a ta → PE X b tb → PE X c tc → PE X (.Compare a [op, op'] [b, c] pos) (tChain r r' ta tb tc)) : CE X W (.Compare a [op, op'] [b, c] pos) (fChain f g ma mb mc) := by
  intro ρ μ s σ H Q hs hm h
  refine ⟨_, hch op_w op_w pe_w pe_w pe_w, ?_⟩
  refine ha ρ μ s σ H _ hs hm (h.bind fun u μ1 x H1 ρ1 t1 r1 h1 => ?_)
  refine hb ρ1 μ1 s σ H1 _ (t1.s hs) t1.mem (h1.bind fun w μ2 y H2 ρ2 t2 r2 h2 => ?_)
  refine ho ρ2 μ2 σ H2 u w x y _ t2.mem (t2.v r1) r2 (h2.bind fun z μ3 v3 H3 ρ3 t3 r3 h3 => ?_)
  split at h3
  · cases r3
    refine ⟨true, rfl, ?_⟩
    refine iteT (hc ρ3 μ3 s σ H3 _ (t3.s (t2.s (t1.s hs))) t3.mem (h3.bind fun z' μ4 v4 H4 ρ4 t4 r4 h4 => ?_))
    exact ho' ρ4 μ4 σ H4 _ _ _ _ Q t4.mem (t4.v (t3.v r2)) r4 h4
  · cases r3
    exact ⟨false, rfl, iteF (h3.ok (Stp.refl t3.mem) .bl)⟩
  · exact h3.elim

/-! ### truth, tests -/
def truU (μ : Mem) : U → Option Bool
  | .non => some false
  | .bl b => some b
  | .int i => some (i != 0)
  | .str s => if s.length ≤ lim then some ((s.length : Int) != 0) else none
  | .tup us => some (!us.isEmpty)
  | .ref i => match μ[i]? with
    | some (.lst us) => some (!us.isEmpty)
    | some (.dct kvs) => some (!kvs.isEmpty)
    | _ => none
  | .frl us => some (!us.isEmpty)
theorem RepVs.empty {K : PySem.W.Frag} {H : Hp} {ρ : List Addr} {us : List U} {vs : List V} (r : RepVs K H ρ us vs) : us.isEmpty = vs.isEmpty := by
  cases r <;> rfl
theorem map_empty {α β γ : Type} {f : α → γ} {g : β → γ} {xs : List α} {ys : List β} (h : xs.map f = ys.map g) : xs.isEmpty = ys.isEmpty := by
  cases xs <;> cases ys <;> simp_all
theorem truU_ok {K : PySem.W.Frag} {H : Hp} {ρ : List Addr} {μ : Mem} (hm : RepM K H ρ μ) {u : U} {v : V} {b : Bool} (r : RepV K H ρ u v) (e : truU μ u = some b) : TruV K v H b := by
  cases r with
  | non => cases e; rfl
  | bl => cases e; rfl
  | int => cases e; rfl
  | str hs =>
    simp only [truU] at e
    split at e
    · cases e; exact ⟨lim_le (by assumption), rfl⟩
    · cases e
  | tup hs hr =>
    cases e
    exact .inr (.inl ⟨_, hs, by rw [hr.empty]⟩)
  | ref hr =>
    obtain ⟨c, hc, rc⟩ := hm.at hr
    simp only [truU, hc] at e
    cases c with
    | lst us => obtain ⟨vs, q, r⟩ := rc; cases e; exact .inl ⟨vs, .inl (.inl q), by rw [r.empty]⟩
    | dct us => obtain ⟨vs, q, r, _⟩ := rc; cases e; exact .inr (.inr ⟨vs, q, by rw [map_empty r]⟩)
    | _ => cases e
  | frl hs hr =>
    cases e
    exact .inl ⟨_, hs.sq, by rw [hr.empty]⟩
def tst (a : FE) : FT := fun s μ => (a s μ).bind fun u μ1 => match truU μ1 u with
  | some b => .ok b μ1
  | none => .bad
theorem ct_val {a : Expr} {ma : FE} (ha : CE X W a ma) (he : ∀ whole, isTrue a X.env whole = (do let v ← whole; standAt a.pos; holding [v] (truthy v)) := by intro _; rfl) : CT X W a (tst ma) := by
  intro ρ μ s σ H Q hs hm h
  refine ⟨_, pt_truth pe_w he, ?_⟩
  refine ha ρ μ s σ H _ hs hm (h.bind fun u μ1 x H1 ρ1 t1 r1 h1 => ?_)
  cases e : truU μ1 u with
  | none => rw [e] at h1; exact h1.elim
  | some b =>
    rw [e] at h1
    exact ⟨b, truU_ok t1.mem r1 e, h1.ok (Stp.refl t1.mem) rfl⟩
/-- a comparison as a test -/
def tstB (a : FE) : FT := fun s μ => (a s μ).bind fun u μ1 => match u with
  | .bl b => .ok b μ1
  | _ => .bad
theorem ct_cmp {op : CmpOp} {a b : Expr} {f : U → U → Mem → Res U} {ma mb : FE} {pos : Pos} (ho : OpS X W (compareOp op) f) (ha : CE X W a ma) (hb : CE X W b mb) (hm0 : behindInMarks op b = false) : CT X W (.Compare a [op] [b] pos) (tstB (fOp f ma mb)) := by
  intro ρ μ s σ H Q hs hm h
  refine ⟨_, pt_cmpR op_w pe_w pe_w hm0, ?_⟩
  have h' : Post X W σ relB ρ H ((ma s μ).bind fun u μ1 => (mb s μ1).bind fun w μ2 => (f u w μ2).bind fun z μ3 => match z with
    | .bl b => .ok b μ3
    | _ => .bad) Q := by
    have e : tstB (fOp f ma mb) s μ = ((ma s μ).bind fun u μ1 => (mb s μ1).bind fun w μ2 => (f u w μ2).bind fun z μ3 => match z with
      | .bl b => .ok b μ3
      | _ => .bad) := by
      unfold tstB fOp
      cases ma s μ with
      | ok u μ1 =>
        show Res.bind (Res.bind (mb s μ1) _) _ = Res.bind (mb s μ1) _
        cases mb s μ1 <;> rfl
      | ex c m => rfl
      | bad => rfl
    rw [← e]; exact h
  refine ha ρ μ s σ H _ hs hm (h'.bind fun u μ1 x H1 ρ1 t1 r1 h1 => ?_)
  refine hb ρ1 μ1 s σ H1 _ (t1.s hs) t1.mem (h1.bind fun w μ2 y H2 ρ2 t2 r2 h2 => ?_)
  refine ho ρ2 μ2 σ H2 u w x y _ t2.mem (t2.v r1) r2 (h2.bind fun z μ3 v H3 ρ3 t3 r3 h3 => ?_)
  split at h3
  · cases r3
    exact ⟨_, rfl, h3.ok (Stp.refl t3.mem) rfl⟩
  · exact h3.elim
theorem ct_chain {op op' : CmpOp} {a b c : Expr} {f g : U → U → Mem → Res U} {ma mb mc : FE} {pos : Pos} (ho : OpS X W (compareOp op) f) (ho' : OpS X W (compareOp op') g) (ha : CE X W a ma) (hb : CE X W b mb) (hc : CE X W c mc)
    (hch : ∀ {r r' : R2} {ta tb tc : TE}, OpR X (compareOp op) r → OpR X (compareOp op') r' → PE X a ta → PE X b tb → PE X c tc → PT X (.Compare a [op, op'] [b, c] pos) (tTest (L2.tChain r r' ta tb tc))) : CT X W (.Compare a [op, op'] [b, c] pos) (tstB (fChain f g ma mb mc)) := by
  intro ρ μ s σ H Q hs hm h
  refine ⟨_, hch op_w op_w pe_w pe_w pe_w, ?_⟩
  have h' : Post X W σ relB ρ H ((ma s μ).bind fun x μ1 => (mb s μ1).bind fun y μ2 => (f x y μ2).bind fun z μ3 => match z with
    | .bl true => (mc s μ3).bind fun w μ4 => (g y w μ4).bind fun z μ3 => match z with
      | .bl b => .ok b μ3
      | _ => .bad
    | .bl false => .ok false μ3
    | _ => .bad) Q := by
    have e : tstB (fChain f g ma mb mc) s μ = ((ma s μ).bind fun x μ1 => (mb s μ1).bind fun y μ2 => (f x y μ2).bind fun z μ3 => match z with
      | .bl true => (mc s μ3).bind fun w μ4 => (g y w μ4).bind fun z μ3 => match z with
        | .bl b => .ok b μ3
        | _ => .bad
      | .bl false => .ok false μ3
      | _ => .bad) := by
      unfold tstB fChain
      cases ma s μ with
      | ok u μ1 =>
        show Res.bind (Res.bind (mb s μ1) _) _ = Res.bind (mb s μ1) _
        cases mb s μ1 with
        | ok w μ2 =>
          show Res.bind (Res.bind (f u w μ2) _) _ = Res.bind (f u w μ2) _
          cases f u w μ2 with
          | ok z μ3 =>
            cases z with
            | bl b =>
              cases b with
              | true =>
                show Res.bind (Res.bind (mc s μ3) _) _ = Res.bind (mc s μ3) _
                cases mc s μ3 <;> rfl
              | false => rfl
            | _ => rfl
          | ex c m => rfl
          | bad => rfl
        | ex c m => rfl
        | bad => rfl
      | ex c m => rfl
      | bad => rfl
    rw [← e]; exact h
  refine ha ρ μ s σ H _ hs hm (h'.bind fun u μ1 x H1 ρ1 t1 r1 h1 => ?_)
  refine hb ρ1 μ1 s σ H1 _ (t1.s hs) t1.mem (h1.bind fun w μ2 y H2 ρ2 t2 r2 h2 => ?_)
  refine ho ρ2 μ2 σ H2 u w x y _ t2.mem (t2.v r1) r2 (h2.bind fun z μ3 v3 H3 ρ3 t3 r3 h3 => ?_)
  split at h3
  · cases r3
    refine ⟨true, rfl, ?_⟩
    refine iteT (hc ρ3 μ3 s σ H3 _ (t3.s (t2.s (t1.s hs))) t3.mem (h3.bind fun z' μ4 v4 H4 ρ4 t4 r4 h4 => ?_))
    refine ho' ρ4 μ4 σ H4 _ _ _ _ _ t4.mem (t4.v (t3.v r2)) r4 (h4.bind fun z μ5 v H5 ρ5 t5 r5 h5 => ?_)
    split at h5
    · cases r5
      exact ⟨_, rfl, h5.ok (Stp.refl t5.mem) rfl⟩
    · exact h5.elim
  · cases r3
    exact ⟨false, rfl, iteF ⟨false, rfl, h3.ok (Stp.refl t3.mem) rfl⟩⟩
  · exact h3.elim
def tNt (t : FT) : FT := fun s μ => (t s μ).bind fun b μ1 => .ok (!b) μ1
theorem ct_not {a : Expr} {ta : FT} {pos : Pos} (ha : CT X W a ta) : CT X W (.UnaryOp .Not a pos) (tNt ta) := by
  intro ρ μ s σ H Q hs hm h
  refine ⟨_, pt_not pt_w, ?_⟩
  refine ha ρ μ s σ H _ hs hm (h.bind fun b μ1 x H1 ρ1 t1 r1 h1 => ?_)
  cases r1
  exact h1.ok (Stp.refl t1.mem) rfl
def tAn (t u : FT) : FT := fun s μ => (t s μ).bind fun b μ1 => match b with
  | true => u s μ1
  | false => .ok false μ1
def tOr' (t u : FT) : FT := fun s μ => (t s μ).bind fun b μ1 => match b with
  | true => .ok true μ1
  | false => u s μ1
/-- chains of and, or -/
def WW (X : Cx) (e : Expr) : TT := fun σ H Q => ∃ t, PW X e t ∧ t σ H Q
theorem pw_w {X : Cx} {e : Expr} : PW X e (WW X e) := ⟨fun wh pins s σ H Q I ⟨_, h, q⟩ => h.run wh pins s σ H Q I q⟩
def CW (X : Cx) (W : WX) (e : Expr) (m : FT) : Prop := ∀ ρ μ s σ H Q, RepS X.K H ρ s σ → RepM X.K H ρ μ → Post X W σ relB ρ H (m s μ) Q → WW X e σ H Q
theorem CW.ct {e : Expr} {m : FT} (h : CW X W e m) : CT X W e m := fun ρ μ s σ H Q hs hm p => by
  obtain ⟨t, h1, h2⟩ := h ρ μ s σ H Q hs hm p
  exact ⟨t, h1.pt, h2⟩
theorem cw_and1 {a : Expr} {ta : FT} {pos : Pos} (ha : CT X W a ta) : CW X W (.BoolOp .And [a] pos) ta := fun ρ μ s σ H Q hs hm p => ⟨_, pw_and1 pt_w, ha ρ μ s σ H Q hs hm p⟩
theorem cw_or1 {a : Expr} {ta : FT} {pos : Pos} (ha : CT X W a ta) : CW X W (.BoolOp .Or [a] pos) ta := fun ρ μ s σ H Q hs hm p => ⟨_, pw_or1 pt_w, ha ρ μ s σ H Q hs hm p⟩
theorem cw_and {a b : Expr} {rest : List Expr} {ta tb : FT} {pos : Pos} (ha : CT X W a ta) (hb : CW X W (.BoolOp .And (b :: rest) pos) tb) : CW X W (.BoolOp .And (a :: b :: rest) pos) (tAn ta tb) := by
  intro ρ μ s σ H Q hs hm h
  refine ⟨_, pw_and pt_w pw_w, ?_⟩
  refine ha ρ μ s σ H _ hs hm (h.bind fun b μ1 x H1 ρ1 t1 r1 h1 => ?_)
  cases r1
  cases b with
  | true => exact iteT (hb ρ1 μ1 s σ H1 Q (t1.s hs) t1.mem h1)
  | false => exact iteF (h1.ok (Stp.refl t1.mem) rfl)
theorem cw_or {a b : Expr} {rest : List Expr} {ta tb : FT} {pos : Pos} (ha : CT X W a ta) (hb : CW X W (.BoolOp .Or (b :: rest) pos) tb) : CW X W (.BoolOp .Or (a :: b :: rest) pos) (tOr' ta tb) := by
  intro ρ μ s σ H Q hs hm h
  refine ⟨_, pw_or pt_w pw_w, ?_⟩
  refine ha ρ μ s σ H _ hs hm (h.bind fun b μ1 x H1 ρ1 t1 r1 h1 => ?_)
  cases r1
  cases b with
  | true => exact iteT (h1.ok (Stp.refl t1.mem) rfl)
  | false => exact iteF (hb ρ1 μ1 s σ H1 Q (t1.s hs) t1.mem h1)
/-- as values: all but the last are True or False -/
def fAnd (a b : FE) : FE := fun s μ => (a s μ).bind fun u μ1 => match u with
  | .bl true => b s μ1
  | .bl false => .ok (.bl false) μ1
  | _ => .bad
def fOr (a b : FE) : FE := fun s μ => (a s μ).bind fun u μ1 => match u with
  | .bl true => .ok (.bl true) μ1
  | .bl false => b s μ1
  | _ => .bad
theorem ce_one {op : BoolOp} {a : Expr} {ma : FE} {pos : Pos} (ha : CE X W a ma) : CE X W (.BoolOp op [a] pos) ma := fun ρ μ s σ H Q hs hm p => ⟨_, pe_one pe_w, ha ρ μ s σ H Q hs hm p⟩
theorem ce_and {a b : Expr} {rest : List Expr} {ma mb : FE} {pos : Pos} (ha : CE X W a ma) (hb : CE X W (.BoolOp .And (b :: rest) pos) mb) : CE X W (.BoolOp .And (a :: b :: rest) pos) (fAnd ma mb) := by
  intro ρ μ s σ H Q hs hm h
  refine ⟨_, pe_and pe_w pe_w, ?_⟩
  refine ha ρ μ s σ H _ hs hm (h.bind fun b μ1 x H1 ρ1 t1 r1 h1 => ?_)
  split at h1
  · cases r1
    exact ⟨_, rfl, iteT (hb ρ1 μ1 s σ H1 Q (t1.s hs) t1.mem h1)⟩
  · cases r1
    exact ⟨_, rfl, iteF (h1.ok (Stp.refl t1.mem) .bl)⟩
  · exact h1.elim
theorem ce_or {a b : Expr} {rest : List Expr} {ma mb : FE} {pos : Pos} (ha : CE X W a ma) (hb : CE X W (.BoolOp .Or (b :: rest) pos) mb) : CE X W (.BoolOp .Or (a :: b :: rest) pos) (fOr ma mb) := by
  intro ρ μ s σ H Q hs hm h
  refine ⟨_, pe_or pe_w pe_w, ?_⟩
  refine ha ρ μ s σ H _ hs hm (h.bind fun b μ1 x H1 ρ1 t1 r1 h1 => ?_)
  split at h1
  · cases r1
    exact ⟨_, rfl, iteT (h1.ok (Stp.refl t1.mem) .bl)⟩
  · cases r1
    exact ⟨_, rfl, iteF (hb ρ1 μ1 s σ H1 Q (t1.s hs) t1.mem h1)⟩
  · exact h1.elim
def fNot (a : FE) : FE := fun s μ => (a s μ).bind fun u μ1 => match u with
  | .bl b => .ok (.bl (!b)) μ1
  | _ => .bad
theorem ce_not {a : Expr} {ma : FE} {pos : Pos} (ha : CE X W a ma) : CE X W (.UnaryOp .Not a pos) (fNot ma) := by
  intro ρ μ s σ H Q hs hm h
  refine ⟨_, pe_not pe_w, ?_⟩
  refine ha ρ μ s σ H _ hs hm (h.bind fun b μ1 x H1 ρ1 t1 r1 h1 => ?_)
  split at h1
  · cases r1
    exact ⟨_, rfl, h1.ok (Stp.refl t1.mem) .bl⟩
  · exact h1.elim
def fIf (t : FT) (a b : FE) : FE := fun s μ => (t s μ).bind fun c μ1 => match c with
  | true => a s μ1
  | false => b s μ1
theorem ce_if {c a b : Expr} {tc : FT} {ma mb : FE} {pos : Pos} (hc : CT X W c tc) (ha : CE X W a ma) (hb : CE X W b mb) : CE X W (.IfExp c a b pos) (fIf tc ma mb) := by
  intro ρ μ s σ H Q hs hm h
  refine ⟨_, pe_ifExp pt_w pe_w pe_w, ?_⟩
  refine hc ρ μ s σ H _ hs hm (h.bind fun b μ1 x H1 ρ1 t1 r1 h1 => ?_)
  cases r1
  cases b with
  | true => exact iteT (ha ρ1 μ1 s σ H1 Q (t1.s hs) t1.mem h1)
  | false => exact iteF (hb ρ1 μ1 s σ H1 Q (t1.s hs) t1.mem h1)

/-! ### arguments, displays -/
def aNil : FA := fun _ μ => .ok [] μ
def aCons (a : FE) (r : FA) : FA := fun s μ => (a s μ).bind fun u μ1 => (r s μ1).bind fun us μ2 => .ok (u :: us) μ2
theorem ca_nil : CA X W [] aNil := fun ρ μ s σ H Q hs hm h => ⟨_, pa_nil, h.ok (Stp.refl hm) .nil⟩
theorem ca_cons {e : Expr} {es : List Expr} {me : FE} {mr : FA} (he : CE X W e me) (hr : CA X W es mr) (hse : starEach (e :: es) X.env = (false, eval e X.env) :: starEach es X.env := by rfl) : CA X W (e :: es) (aCons me mr) := by
  intro ρ μ s σ H Q hs hm h
  refine ⟨_, pa_cons pe_w pa_w hse, ?_⟩
  refine he ρ μ s σ H _ hs hm (h.bind fun u μ1 x H1 ρ1 t1 r1 h1 => ?_)
  refine hr ρ1 μ1 s σ H1 _ (t1.s hs) t1.mem (h1.bind fun us μ2 xs H2 ρ2 t2 r2 h2 => ?_)
  exact h2.ok (Stp.refl t2.mem) (.cons (t2.v r1) r2)
def fTup (a : FA) : FE := fun s μ => (a s μ).bind fun us μ1 => if us.length ≤ lim then .ok (.tup us) μ1 else .bad
def fLst (a : FA) : FE := fun s μ => (a s μ).bind fun us μ1 => if us.length ≤ lim then .ok (.ref μ1.length) (μ1 ++ [.lst us]) else .bad
theorem ce_tup {es : List Expr} {ma : FA} {x1 pos} (ha : CA X W es ma) : CE X W (.Tuple es x1 pos) (fTup ma) := by
  intro ρ μ s σ H Q hs hm h
  refine ⟨_, pe_tup pa_w, ?_⟩
  refine ha ρ μ s σ H _ hs hm (h.bind fun us μ1 vs H1 ρ1 t1 r1 h1 => ?_)
  split at h1
  · exact ⟨by rw [← RepVs.length r1]; exact lim_le (by assumption), fun p np => h1.ok (Stp.temp t1.mem np) (newT np r1)⟩
  · exact h1.elim
theorem ce_lst {es : List Expr} {ma : FA} {pos : Pos} (ha : CA X W es ma) : CE X W (.List es pos) (fLst ma) := by
  intro ρ μ s σ H Q hs hm h
  refine ⟨_, pe_lst pa_w, ?_⟩
  refine ha ρ μ s σ H _ hs hm (h.bind fun us μ1 vs H1 ρ1 t1 r1 h1 => ?_)
  split at h1
  · exact ⟨by rw [← RepVs.length r1]; exact lim_le (by assumption), fun p np => h1.ok (newL t1.mem np r1) (refN t1.mem)⟩
  · exact h1.elim
end
end Dg
/-! Dg3: calls of built-ins, subscripts, slices, dicts, methods. -/
namespace Dg
open PySem PySem.Spec PyProof.Rows L2
section
variable {X : Cx} {W : WX} {k : Nat}

/-! ### calls of built-ins by value -/
def CallW (X : Cx) (f : Value) : List V → Hp → VK → Prop := fun vs H Q => ∃ r, CallR X f r ∧ r vs H Q
theorem call_w {f : Value} : CallR X f (CallW X f) := fun pins s σ H xs us Q I rx ⟨_, h, q⟩ => h pins s σ H xs us Q I rx q
def CallS (X : Cx) (W : WX) (f : Value) (g : List U → Mem → Res U) : Prop := ∀ ρ μ σ H us vs Q, RepM X.K H ρ μ → RepVs X.K H ρ us vs → Post X W σ relV ρ H (g us μ) Q → CallW X f vs H Q
def fCall (g : List U → Mem → Res U) (a : FA) : FE := fun s μ => (a s μ).bind g
theorem ce_callB {id : String} {x : Str} {e : Expr} {es : List Expr} {ma : FA} {g : List U → Mem → Res U} {p pos : Pos} (hc : CallS X W (.builtin id) g) (hg : Gl X x) (hm : X.mg x = none) (hv : bootBuiltins x = some (.builtin id)) (ha : CA X W (e :: es) ma)
    (hp : ∀ {r : List V → Hp → VK → Prop} {t : TA}, CallR X (.builtin id) r → PA X (e :: es) t → PE X (.Call (.Name x p) (e :: es) [] pos) (tCB r t)) : CE X W (.Call (.Name x p) (e :: es) [] pos) (fCall g ma) := by
  intro ρ μ s σ H Q hs hm' h
  refine ⟨_, hp call_w pa_w, ?_⟩
  exact ha ρ μ s σ H _ hs hm' (h.bind fun us μ1 vs H1 ρ1 t1 r1 h1 => hc ρ1 μ1 σ H1 us vs Q t1.mem r1 h1)
theorem ce_callT {T : String} {x : Str} {e : Expr} {es : List Expr} {ma : FA} {g : List U → Mem → Res U} {p pos : Pos} (hc : CallS X W (.type T) g) (hg : Gl X x) (hm : X.mg x = none) (hv : bootBuiltins x = some (.type T)) (ha : CA X W (e :: es) ma)
    (hp : ∀ {r : List V → Hp → VK → Prop} {t : TA}, CallR X (.type T) r → PA X (e :: es) t → PE X (.Call (.Name x p) (e :: es) [] pos) (tCB r t)) : CE X W (.Call (.Name x p) (e :: es) [] pos) (fCall g ma) := by
  intro ρ μ s σ H Q hs hm' h
  refine ⟨_, hp call_w pa_w, ?_⟩
  exact ha ρ μ s σ H _ hs hm' (h.bind fun us μ1 vs H1 ρ1 t1 r1 h1 => hc ρ1 μ1 σ H1 us vs Q t1.mem r1 h1)

/-- what of a list or tuple is read -/
inductive SeqOf (μ : Mem) : U → List U → Prop
  | tup {us : List U} : SeqOf μ (.tup us) us
  | lst {i : Nat} {us : List U} : μ[i]? = some (.lst us) → SeqOf μ (.ref i) us
def seqU (μ : Mem) : U → Option (List U)
  | .tup us => some us
  | .ref i => match μ[i]? with
    | some (.lst us) => some us
    | _ => none
  | .frl us => some us
  | _ => none
theorem seqU_ok {K : PySem.W.Frag} {H : Hp} {ρ : List Addr} {μ : Mem} (hm : RepM K H ρ μ) {u : U} {v : V} {us : List U} (r : RepV K H ρ u v) (e : seqU μ u = some us) : ∃ a vs, v = .ref a ∧ (SqL K H a vs ∨ SqT K H a vs) ∧ RepVs K H ρ us vs := by
  cases r with
  | tup hs hr => cases e; exact ⟨_, _, rfl, .inr hs, hr⟩
  | ref hr =>
    obtain ⟨c, hc, rc⟩ := hm.at hr
    simp only [seqU, hc] at e
    cases c with
    | lst us => obtain ⟨vs, q, r⟩ := rc; cases e; exact ⟨_, vs, rfl, .inl (.inl (.inl q)), r⟩
    | _ => cases e
  | frl hs hr => cases e; exact ⟨_, _, rfl, .inl hs.sq, hr⟩
  | _ => cases e
/-- a list that stands for itself -/
def lstU (μ : Mem) : U → Option (List U)
  | .ref i => match μ[i]? with
    | some (.lst us) => some us
    | _ => none
  | .frl us => some us
  | _ => none
theorem lstU_ok {K : PySem.W.Frag} {H : Hp} {ρ : List Addr} {μ : Mem} (hm : RepM K H ρ μ) {u : U} {v : V} {us : List U} (r : RepV K H ρ u v) (e : lstU μ u = some us) : ∃ a vs, v = .ref a ∧ SqL K H a vs ∧ RepVs K H ρ us vs := by
  cases r with
  | ref hr =>
    obtain ⟨c, hc, rc⟩ := hm.at hr
    simp only [lstU, hc] at e
    cases c with
    | lst us => obtain ⟨vs, q, r⟩ := rc; cases e; exact ⟨_, vs, rfl, .inl (.inl q), r⟩
    | _ => cases e
  | frl hs hr => cases e; exact ⟨_, _, rfl, hs.sq, hr⟩
  | _ => cases e
def lenU (μ : Mem) : U → Option Nat
  | .str z => if z.length ≤ lim then some z.length else none
  | .tup us => some us.length
  | .ref i => match μ[i]? with
    | some (.lst us) => some us.length
    | some (.dct us) => some us.length
    | _ => none
  | .frl us => some us.length
  | _ => none
def bLen (us : List U) (μ : Mem) : Res U := match us with
  | [u] => match lenU μ u with
    | some n => .ok (.int (n : Int)) μ
    | none => .bad
  | _ => .bad
theorem cs_len : CallS X W (.builtin "len") bLen := by
  intro ρ μ σ H us vs Q hm r h
  unfold bLen at h
  split at h
  · rename_i u
    cases r with
    | cons ru r0 =>
      cases r0
      cases e : lenU μ u with
      | none => rw [e] at h; exact h.elim
      | some n =>
        rw [e] at h
        have q : ∀ H', H' = H → Q (.int (n : Int)) H' := fun H' e => e ▸ h.ok (Stp.refl hm) .int
        cases ru with
        | str hs =>
          simp only [lenU] at e
          split at e
          · cases e; exact ⟨_, call_len, _, _, rfl, ⟨lim_le (by assumption), rfl⟩, q _ rfl⟩
          · cases e
        | tup hs hr => cases e; exact ⟨_, call_len, _, _, rfl, .inr ⟨_, hs, hr.length⟩, q _ rfl⟩
        | frl hs hr => cases e; exact ⟨_, call_len, _, _, rfl, .inl ⟨_, hs.sq, hr.length⟩, q _ rfl⟩
        | ref hr =>
          obtain ⟨c, hc, rc⟩ := hm.at hr
          simp only [lenU, hc] at e
          cases c with
          | lst us => obtain ⟨vs, q1, r⟩ := rc; cases e; exact ⟨_, call_len, _, _, rfl, .inl ⟨_, .inl (.inl q1), r.length⟩, q _ rfl⟩
          | dct us =>
            obtain ⟨vs, q1, r, _⟩ := rc
            cases e
            refine ⟨_, call_lenD, _, vs, rfl, q1, ?_⟩
            have : vs.length = us.length := by have := congrArg List.length r; simpa using this
            rw [this]
            exact q _ rfl
          | _ => cases e
        | _ => cases e
  · exact h.elim
def bInt (us : List U) (μ : Mem) : Res U := match us with
  | [.int i] => .ok (.int i) μ
  | [.bl b] => .ok (.int (if b then 1 else 0)) μ
  | _ => .bad
theorem cs_int : CallS X W (.type "int") bInt := by
  intro ρ μ σ H us vs Q hm r h
  unfold bInt at h
  split at h
  · cases r with
    | cons ru r0 => cases r0; cases ru; exact ⟨_, call_int1, .inl ⟨_, rfl, h.ok (Stp.refl hm) .int⟩⟩
  · cases r with
    | cons ru r0 => cases r0; cases ru; exact ⟨_, call_int1, .inr ⟨_, rfl, h.ok (Stp.refl hm) .int⟩⟩
  · exact h.elim
def bAbs (us : List U) (μ : Mem) : Res U := match us with
  | [.int i] => .ok (.int (if i < 0 then -i else i)) μ
  | _ => .bad
theorem cs_abs : CallS X W (.builtin "abs") bAbs := by
  intro ρ μ σ H us vs Q hm r h
  unfold bAbs at h
  split at h
  · cases r with
    | cons ru r0 => cases r0; cases ru; exact ⟨_, call_abs, _, rfl, h.ok (Stp.refl hm) .int⟩
  · exact h.elim
def intsU : List U → Option (List Int)
  | [] => some []
  | .int i :: us => (intsU us).map (i :: ·)
  | _ :: _ => none
theorem intsU_ok : ∀ {us : List U} {is : List Int}, intsU us = some is → us = is.map U.int
  | [], _, e => by cases e; rfl
  | .int i :: us, _, e => by
    simp only [intsU, Option.map_eq_some_iff] at e
    obtain ⟨a, h, rfl⟩ := e
    rw [intsU_ok h]; rfl
  | .non :: us, _, e => by cases e
  | .bl _ :: us, _, e => by cases e
  | .str _ :: us, _, e => by cases e
  | .tup _ :: us, _, e => by cases e
  | .ref _ :: us, _, e => by cases e
  | .frl _ :: us, _, e => by cases e
def strsU : List U → Option (List Str)
  | [] => some []
  | .str i :: us => (strsU us).map (i :: ·)
  | _ :: _ => none
theorem strsU_ok : ∀ {us : List U} {is : List Str}, strsU us = some is → us = is.map U.str
  | [], _, e => by cases e; rfl
  | .str i :: us, _, e => by
    simp only [strsU, Option.map_eq_some_iff] at e
    obtain ⟨a, h, rfl⟩ := e
    rw [strsU_ok h]; rfl
  | .non :: us, _, e => by cases e
  | .bl _ :: us, _, e => by cases e
  | .int _ :: us, _, e => by cases e
  | .tup _ :: us, _, e => by cases e
  | .ref _ :: us, _, e => by cases e
  | .frl _ :: us, _, e => by cases e
def blsU : List U → Option (List Bool)
  | [] => some []
  | .bl i :: us => (blsU us).map (i :: ·)
  | _ :: _ => none
theorem blsU_ok : ∀ {us : List U} {is : List Bool}, blsU us = some is → us = is.map U.bl
  | [], _, e => by cases e; rfl
  | .bl i :: us, _, e => by
    simp only [blsU, Option.map_eq_some_iff] at e
    obtain ⟨a, h, rfl⟩ := e
    rw [blsU_ok h]; rfl
  | .non :: us, _, e => by cases e
  | .str _ :: us, _, e => by cases e
  | .int _ :: us, _, e => by cases e
  | .tup _ :: us, _, e => by cases e
  | .ref _ :: us, _, e => by cases e
  | .frl _ :: us, _, e => by cases e
def maxI : Int → List Int → Int
  | m, [] => m
  | m, x :: xs => maxI (if x > m then x else m) xs
def minI : Int → List Int → Int
  | m, [] => m
  | m, x :: xs => minI (if x < m then x else m) xs
theorem maxI_ok : ∀ (xs : List Int) (m : Int), (maxI m xs = m ∨ maxI m xs ∈ xs) ∧ m ≤ maxI m xs ∧ ∀ y ∈ xs, y ≤ maxI m xs
  | [], m => ⟨.inl rfl, Int.le_refl _, by simp⟩
  | x :: xs, m => by
    obtain ⟨h1, h2, h3⟩ := maxI_ok xs (if x > m then x else m)
    refine ⟨?_, ?_, fun y hy => ?_⟩
    · rcases h1 with h1 | h1
      · show maxI (if x > m then x else m) xs = m ∨ _
        rw [h1]
        by_cases c : x > m
        · rw [if_pos c]; exact .inr (by show maxI (if x > m then x else m) xs ∈ x :: xs; rw [h1, if_pos c]; exact List.mem_cons_self)
        · rw [if_neg c]; exact .inl rfl
      · exact .inr (List.mem_cons_of_mem _ h1)
    · show m ≤ maxI (if x > m then x else m) xs
      by_cases c : x > m
      · rw [if_pos c] at h2 ⊢; omega
      · rw [if_neg c] at h2 ⊢; omega
    · show y ≤ maxI (if x > m then x else m) xs
      rcases List.mem_cons.mp hy with e | e
      · subst e
        by_cases c : y > m
        · rw [if_pos c] at h2 ⊢; omega
        · rw [if_neg c] at h2 ⊢; omega
      · exact h3 y e
theorem minI_ok : ∀ (xs : List Int) (m : Int), (minI m xs = m ∨ minI m xs ∈ xs) ∧ minI m xs ≤ m ∧ ∀ y ∈ xs, minI m xs ≤ y
  | [], m => ⟨.inl rfl, Int.le_refl _, by simp⟩
  | x :: xs, m => by
    obtain ⟨h1, h2, h3⟩ := minI_ok xs (if x < m then x else m)
    refine ⟨?_, ?_, fun y hy => ?_⟩
    · rcases h1 with h1 | h1
      · show minI (if x < m then x else m) xs = m ∨ _
        rw [h1]
        by_cases c : x < m
        · rw [if_pos c]; exact .inr (by show minI (if x < m then x else m) xs ∈ x :: xs; rw [h1, if_pos c]; exact List.mem_cons_self)
        · rw [if_neg c]; exact .inl rfl
      · exact .inr (List.mem_cons_of_mem _ h1)
    · show minI (if x < m then x else m) xs ≤ m
      by_cases c : x < m
      · rw [if_pos c] at h2 ⊢; omega
      · rw [if_neg c] at h2 ⊢; omega
    · show minI (if x < m then x else m) xs ≤ y
      rcases List.mem_cons.mp hy with e | e
      · subst e
        by_cases c : y < m
        · rw [if_pos c] at h2 ⊢; omega
        · rw [if_neg c] at h2 ⊢; omega
      · exact h3 y e
def bMax (us : List U) (μ : Mem) : Res U := match us with
  | [.int i, .int j] => .ok (.int (if j > i then j else i)) μ
  | [.ref r] => match (lstU μ (.ref r)).bind intsU with
    | some (m :: is) => .ok (.int (maxI m is)) μ
    | _ => .bad
  | _ => .bad
def bMin (us : List U) (μ : Mem) : Res U := match us with
  | [.int i, .int j] => .ok (.int (if j < i then j else i)) μ
  | [.ref r] => match (lstU μ (.ref r)).bind intsU with
    | some (m :: is) => .ok (.int (minI m is)) μ
    | _ => .bad
  | _ => .bad
theorem cs_max (hc : X.calm = true) : CallS X W (.builtin "max") bMax := by
  intro ρ μ σ H us vs Q hm r h
  unfold bMax at h
  split at h
  · cases r with
    | cons ru r0 => cases r0 with | cons rw' r1 => cases r1; cases ru; cases rw'; exact ⟨_, call_max2 hc, _, _, rfl, h.ok (Stp.refl hm) .int⟩
  · rename_i i
    cases r with
    | cons ru r0 =>
      cases r0
      split at h
      · rename_i m is e
        obtain ⟨us, e1, e2⟩ := Option.bind_eq_some_iff.mp e
        obtain ⟨a, vs, rfl, q1, r1⟩ := lstU_ok hm ru e1
        rw [intsU_ok e2] at r1
        rw [r1.ints] at q1
        refine ⟨_, cr_max hc, a, m :: is, rfl, q1, by simp, fun z hz hle => ?_⟩
        have ez : z = maxI m is := by
          obtain ⟨h1, h2, h3⟩ := maxI_ok is m
          have a1 : maxI m is ≤ z := by
            rcases h1 with h1 | h1
            · rw [h1]; exact hle m (by simp)
            · exact hle _ (List.mem_cons_of_mem _ h1)
          have a2 : z ≤ maxI m is := by
            rcases List.mem_cons.mp hz with e | e
            · rw [e]; exact h2
            · exact h3 z e
          omega
        rw [ez]
        exact h.ok (Stp.refl hm) .int
      · exact h.elim
  · exact h.elim
theorem cs_min (hc : X.calm = true) : CallS X W (.builtin "min") bMin := by
  intro ρ μ σ H us vs Q hm r h
  unfold bMin at h
  split at h
  · cases r with
    | cons ru r0 => cases r0 with | cons rw' r1 => cases r1; cases ru; cases rw'; exact ⟨_, call_min2 hc, _, _, rfl, h.ok (Stp.refl hm) .int⟩
  · rename_i i
    cases r with
    | cons ru r0 =>
      cases r0
      split at h
      · rename_i m is e
        obtain ⟨us, e1, e2⟩ := Option.bind_eq_some_iff.mp e
        obtain ⟨a, vs, rfl, q1, r1⟩ := lstU_ok hm ru e1
        rw [intsU_ok e2] at r1
        rw [r1.ints] at q1
        refine ⟨_, cr_min hc, a, m :: is, rfl, q1, by simp, fun z hz hle => ?_⟩
        have ez : z = minI m is := by
          obtain ⟨h1, h2, h3⟩ := minI_ok is m
          have a1 : z ≤ minI m is := by
            rcases h1 with h1 | h1
            · rw [h1]; exact hle m (by simp)
            · exact hle _ (List.mem_cons_of_mem _ h1)
          have a2 : minI m is ≤ z := by
            rcases List.mem_cons.mp hz with e | e
            · rw [e]; exact h2
            · exact h3 z e
          omega
        rw [ez]
        exact h.ok (Stp.refl hm) .int
      · exact h.elim
  · exact h.elim
def bSum (us : List U) (μ : Mem) : Res U := match us with
  | [.ref r] => match (lstU μ (.ref r)).bind intsU with
    | some is => .ok (.int is.sum) μ
    | _ => .bad
  | _ => .bad
theorem cs_sum (hc : X.calm = true) : CallS X W (.builtin "sum") bSum := by
  intro ρ μ σ H us vs Q hm r h
  unfold bSum at h
  split at h
  · cases r with
    | cons ru r0 =>
      cases r0
      split at h
      · rename_i is e
        obtain ⟨us, e1, e2⟩ := Option.bind_eq_some_iff.mp e
        obtain ⟨a, vs, rfl, q1, r1⟩ := lstU_ok hm ru e1
        rw [intsU_ok e2] at r1
        rw [r1.ints] at q1
        exact ⟨_, cr_sum hc, a, is, rfl, q1, h.ok (Stp.refl hm) .int⟩
      · exact h.elim
  · exact h.elim
def bAll (us : List U) (μ : Mem) : Res U := match us with
  | [.ref r] => match (lstU μ (.ref r)).bind blsU with
    | some is => .ok (.bl (is.all id)) μ
    | _ => .bad
  | _ => .bad
def bAny (us : List U) (μ : Mem) : Res U := match us with
  | [.ref r] => match (lstU μ (.ref r)).bind blsU with
    | some is => .ok (.bl (is.any id)) μ
    | _ => .bad
  | _ => .bad
theorem cs_all (hc : X.calm = true) : CallS X W (.builtin "all") bAll := by
  intro ρ μ σ H us vs Q hm r h
  unfold bAll at h
  split at h
  · cases r with
    | cons ru r0 =>
      cases r0
      split at h
      · rename_i is e
        obtain ⟨us, e1, e2⟩ := Option.bind_eq_some_iff.mp e
        obtain ⟨a, vs, rfl, q1, r1⟩ := lstU_ok hm ru e1
        rw [blsU_ok e2] at r1
        rw [r1.bls] at q1
        exact ⟨_, cr_all hc, a, is, rfl, q1, h.ok (Stp.refl hm) .bl⟩
      · exact h.elim
  · exact h.elim
theorem cs_any (hc : X.calm = true) : CallS X W (.builtin "any") bAny := by
  intro ρ μ σ H us vs Q hm r h
  unfold bAny at h
  split at h
  · cases r with
    | cons ru r0 =>
      cases r0
      split at h
      · rename_i is e
        obtain ⟨us, e1, e2⟩ := Option.bind_eq_some_iff.mp e
        obtain ⟨a, vs, rfl, q1, r1⟩ := lstU_ok hm ru e1
        rw [blsU_ok e2] at r1
        rw [r1.bls] at q1
        exact ⟨_, cr_any hc, a, is, rfl, q1, h.ok (Stp.refl hm) .bl⟩
      · exact h.elim
  · exact h.elim
def bList (us : List U) (μ : Mem) : Res U := match us with
  | [u] => match seqU μ u with
    | some xs => .ok (.ref μ.length) (μ ++ [.lst xs])
    | none => .bad
  | _ => .bad
theorem cs_list : CallS X W (.type "list") bList := by
  intro ρ μ σ H us vs Q hm r h
  unfold bList at h
  split at h
  · cases r with
    | cons ru r0 =>
      cases r0
      split at h
      · rename_i xs e
        obtain ⟨a, vs, rfl, q1, r1⟩ := seqU_ok hm ru e
        exact ⟨_, call_list_of, a, vs, rfl, q1, fun p np => h.ok (newL hm np r1) (refN hm)⟩
      · exact h.elim
  · exact h.elim
def bTuple (us : List U) (μ : Mem) : Res U := match us with
  | [u] => match seqU μ u with
    | some xs => .ok (.tup xs) μ
    | none => .bad
  | _ => .bad
theorem cs_tuple : CallS X W (.type "tuple") bTuple := by
  intro ρ μ σ H us vs Q hm r h
  unfold bTuple at h
  split at h
  · cases r with
    | cons ru r0 =>
      cases r0
      split at h
      · rename_i xs e
        obtain ⟨a, vs, rfl, q1, r1⟩ := seqU_ok hm ru e
        refine ⟨_, call_tuple_of, a, vs, rfl, ?_⟩
        rcases q1 with q1 | q1
        · exact .inl ⟨q1, fun p np => h.ok (Stp.temp hm np) (newT np r1)⟩
        · exact .inr ⟨q1, h.ok (Stp.refl hm) (.tup q1 r1)⟩
      · exact h.elim
  · exact h.elim

/-! ### sorted -/
def insI (x : Int) : List Int → List Int
  | [] => [x]
  | y :: ys => if x ≤ y then x :: y :: ys else y :: insI x ys
def sortI : List Int → List Int
  | [] => []
  | x :: xs => insI x (sortI xs)
theorem insI_perm (x : Int) : ∀ ys, (insI x ys).Perm (x :: ys)
  | [] => List.Perm.refl _
  | y :: ys => by
    unfold insI
    split
    · exact List.Perm.refl _
    · exact ((insI_perm x ys).cons y).trans (List.Perm.swap x y ys)
theorem sortI_perm : ∀ xs, (sortI xs).Perm xs
  | [] => List.Perm.refl _
  | x :: xs => (insI_perm x (sortI xs)).trans ((sortI_perm xs).cons x)
theorem insI_sorted (x : Int) : ∀ ys : List Int, ys.Pairwise (· ≤ ·) → (insI x ys).Pairwise (· ≤ ·)
  | [], _ => by simp [insI]
  | y :: ys, h => by
    unfold insI
    rw [List.pairwise_cons] at h
    split
    · rename_i c
      rw [List.pairwise_cons, List.pairwise_cons]
      refine ⟨fun z hz => ?_, h⟩
      rcases List.mem_cons.mp hz with e | e
      · rw [e]; exact c
      · exact Int.le_trans c (h.1 z e)
    · rename_i c
      rw [List.pairwise_cons]
      refine ⟨fun z hz => ?_, insI_sorted x ys h.2⟩
      rcases List.mem_cons.mp ((insI_perm x ys).mem_iff.mp hz) with e | e
      · rw [e]; omega
      · exact h.1 z e
theorem sortI_sorted : ∀ xs, (sortI xs).Pairwise (· ≤ ·)
  | [] => .nil
  | x :: xs => insI_sorted x _ (sortI_sorted xs)
theorem sorted_unique : ∀ {a b : List Int}, a.Perm b → a.Pairwise (· ≤ ·) → b.Pairwise (· ≤ ·) → a = b
  | [], b, p, _, _ => by rw [List.nil_perm.mp p]
  | x :: a, [], p, _, _ => by simp at p
  | x :: a, y :: b, p, ha, hb => by
    rw [List.pairwise_cons] at ha hb
    have hx : x ∈ y :: b := p.mem_iff.mp (by simp)
    have hy : y ∈ x :: a := p.mem_iff.mpr (by simp)
    have e : x = y := by
      rcases List.mem_cons.mp hx with q | q
      · exact q
      · rcases List.mem_cons.mp hy with q2 | q2
        · exact q2.symm
        · exact Int.le_antisymm (ha.1 y q2) (hb.1 x q)
    subst e
    rw [sorted_unique (List.Perm.cons_inv p) ha.2 hb.2]
abbrev leC (a b : List Nat) : Prop := PySem.Spec.ltCps b a = false
theorem leC_refl : ∀ a : List Nat, leC a a
  | [] => rfl
  | a :: r => by
    have := leC_refl r
    simp_all [leC, PySem.Spec.ltCps]
theorem leC_anti : ∀ {a b : List Nat}, leC a b → leC b a → a = b
  | [], [], _, _ => rfl
  | [], _ :: _, h, g => by simp [leC, PySem.Spec.ltCps] at h g
  | _ :: _, [], h, g => by simp [leC, PySem.Spec.ltCps] at h g
  | a :: r, b :: t, h, g => by
    simp only [leC, PySem.Spec.ltCps, Bool.or_eq_false_iff, decide_eq_false_iff_not, Bool.and_eq_false_iff, beq_eq_false_iff_ne] at h g
    have e : a = b := by omega
    subst e
    have h2 : leC r t := by rcases h.2 with q | q; exact absurd rfl q; exact q
    have g2 : leC t r := by rcases g.2 with q | q; exact absurd rfl q; exact q
    rw [leC_anti h2 g2]
theorem leC_trans : ∀ {a b c : List Nat}, leC a b → leC b c → leC a c
  | [], _, [], _, _ => rfl
  | [], _, _ :: _, _, _ => rfl
  | _ :: _, [], _, h, _ => by simp [leC, PySem.Spec.ltCps] at h
  | _ :: _, _ :: _, [], _, g => by simp [leC, PySem.Spec.ltCps] at g
  | a :: r, b :: t, c :: w, h, g => by
    simp only [leC, PySem.Spec.ltCps, Bool.or_eq_false_iff, decide_eq_false_iff_not, Bool.and_eq_false_iff, beq_eq_false_iff_ne] at h g ⊢
    refine ⟨by omega, ?_⟩
    by_cases e : c = a
    · right
      have e1 : b = a := by omega
      have e2 : c = b := by omega
      have h2 : leC r t := by rcases h.2 with q | q; exact absurd e1 q; exact q
      have g2 : leC t w := by rcases g.2 with q | q; exact absurd e2 q; exact q
      exact leC_trans h2 g2
    · left; exact e
theorem leC_total (a b : List Nat) : leC a b ∨ leC b a := by
  induction a generalizing b with
  | nil => cases b <;> simp [leC, PySem.Spec.ltCps]
  | cons x r ih =>
    cases b with
    | nil => right; rfl
    | cons y t =>
      simp only [leC, PySem.Spec.ltCps, Bool.or_eq_false_iff, decide_eq_false_iff_not, Bool.and_eq_false_iff, beq_eq_false_iff_ne]
      by_cases h1 : x < y
      · left; exact ⟨by omega, .inl (by omega)⟩
      · by_cases h2 : y < x
        · right; exact ⟨by omega, .inl (by omega)⟩
        · rcases ih t with q | q
          · left; exact ⟨h2, .inr q⟩
          · right; exact ⟨h1, .inr q⟩
def leS (a b : Str) : Prop := leC a.cps.toList b.cps.toList
theorem leS_anti {a b : Str} (h : leS a b) (g : leS b a) : a = b := by
  have e := leC_anti h g
  cases a with | mk a => cases b with | mk b => exact congrArg Str.mk (Array.toList_inj.mp e)
theorem leS_of_rising : ∀ (r : List Str) (p : Str), risingS p r = true → (p :: r).Pairwise leS
  | [], p, _ => by simp
  | x :: r, p, h => by
    simp only [risingS, Bool.and_eq_true, Bool.not_eq_true'] at h
    have ih := leS_of_rising r x h.2
    rw [List.pairwise_cons] at ih
    rw [List.pairwise_cons, List.pairwise_cons]
    have h1 : leS p x := h.1
    refine ⟨fun z hz => ?_, ih⟩
    rcases List.mem_cons.mp hz with e | e
    · rw [e]; exact h1
    · exact leC_trans h1 (ih.1 z e)
theorem leS_of_sorted : ∀ {r : List Str}, sortedS r = true → r.Pairwise leS
  | [], _ => .nil
  | x :: r, h => leS_of_rising r x h
theorem uniqueS : ∀ {a b : List Str}, a.Perm b → a.Pairwise leS → b.Pairwise leS → a = b
  | [], b, p, _, _ => by rw [List.nil_perm.mp p]
  | x :: a, [], p, _, _ => by simp at p
  | x :: a, y :: b, p, ha, hb => by
    rw [List.pairwise_cons] at ha hb
    have hx : x ∈ y :: b := p.mem_iff.mp (by simp)
    have hy : y ∈ x :: a := p.mem_iff.mpr (by simp)
    have e : x = y := by
      rcases List.mem_cons.mp hx with q | q
      · exact q
      · rcases List.mem_cons.mp hy with q2 | q2
        · exact q2.symm
        · exact leS_anti (ha.1 y q2) (hb.1 x q)
    subst e
    rw [uniqueS (List.Perm.cons_inv p) ha.2 hb.2]
def insS (x : Str) : List Str → List Str
  | [] => [x]
  | y :: ys => if strLt y x then y :: insS x ys else x :: y :: ys
def sortS : List Str → List Str
  | [] => []
  | x :: xs => insS x (sortS xs)
theorem insS_perm (x : Str) : ∀ ys, (insS x ys).Perm (x :: ys)
  | [] => List.Perm.refl _
  | y :: ys => by
    unfold insS
    split
    · exact ((insS_perm x ys).cons y).trans (List.Perm.swap x y ys)
    · exact List.Perm.refl _
theorem sortS_perm : ∀ xs, (sortS xs).Perm xs
  | [] => List.Perm.refl _
  | x :: xs => (insS_perm x (sortS xs)).trans ((sortS_perm xs).cons x)
theorem insS_sorted (x : Str) : ∀ ys : List Str, ys.Pairwise leS → (insS x ys).Pairwise leS
  | [], _ => by simp [insS]
  | y :: ys, h => by
    unfold insS
    rw [List.pairwise_cons] at h
    split
    · rename_i c
      have yx : leS y x := by
        rcases leC_total y.cps.toList x.cps.toList with q | q
        · exact q
        · rw [leC] at q
          unfold strLt at c
          rw [q] at c; cases c
      rw [List.pairwise_cons]
      refine ⟨fun z hz => ?_, insS_sorted x ys h.2⟩
      rcases List.mem_cons.mp ((insS_perm x ys).mem_iff.mp hz) with e | e
      · rw [e]; exact yx
      · exact h.1 z e
    · rename_i c
      have xy : leS x y := by
        unfold strLt at c
        exact Bool.eq_false_iff.mpr c
      rw [List.pairwise_cons, List.pairwise_cons]
      refine ⟨fun z hz => ?_, h⟩
      rcases List.mem_cons.mp hz with e | e
      · rw [e]; exact xy
      · exact leC_trans xy (h.1 z e)
theorem sortS_sorted : ∀ xs, (sortS xs).Pairwise leS
  | [] => .nil
  | x :: xs => insS_sorted x _ (sortS_sorted xs)
def keysS : List (Key × U) → Option (List Str)
  | [] => some []
  | (.inr x, _) :: r => (keysS r).map (x :: ·)
  | _ :: _ => none
theorem keysS_ok : ∀ {us : List (Key × U)} {is : List Str}, keysS us = some is → us.map (·.1) = is.map Sum.inr
  | [], _, e => by cases e; rfl
  | (.inr x, _) :: us, _, e => by
    simp only [keysS, Option.map_eq_some_iff] at e
    obtain ⟨a, h, rfl⟩ := e
    simp [keysS_ok h]
  | (.inl _, _) :: us, _, e => by cases e
def keysI : List (Key × U) → Option (List Int)
  | [] => some []
  | (.inl x, _) :: r => (keysI r).map (x :: ·)
  | _ :: _ => none
theorem keysI_ok : ∀ {us : List (Key × U)} {is : List Int}, keysI us = some is → us.map (·.1) = is.map Sum.inl
  | [], _, e => by cases e; rfl
  | (.inl x, _) :: us, _, e => by
    simp only [keysI, Option.map_eq_some_iff] at e
    obtain ⟨a, h, rfl⟩ := e
    simp [keysI_ok h]
  | (.inr _, _) :: us, _, e => by cases e
def keyOk : Key → Bool
  | .inl _ => true
  | .inr x => PyData.strOk x
/-- sorted: ints; fewer than 64 texts; a dict's fewer than 64 text keys -/
def bSorted (us : List U) (μ : Mem) : Res U := match us with
  | [.ref r] => match μ[r]? with
    | some (.dct kvs) => match keysS kvs with
      | some ks => if ks.length < 64 ∧ ks.all PyData.strOk = true then .ok (.ref μ.length) (μ ++ [.lst ((sortS ks).map U.str)]) else .bad
      | none => match keysI kvs with
        | some ks => if ks.length < 64 then .ok (.ref μ.length) (μ ++ [.lst ((sortI ks).map U.int)]) else .bad
        | none => .bad
    | _ => match lstU μ (.ref r) with
      | some xs => match strsU xs with
        | some ss => if ss.length < 64 then .ok (.ref μ.length) (μ ++ [.lst ((sortS ss).map U.str)]) else .bad
        | none => match intsU xs with
          | some is => .ok (.ref μ.length) (μ ++ [.lst ((sortI is).map U.int)])
          | none => .bad
      | none => .bad
  | _ => .bad
theorem cs_sorted (hc : X.calm = true) : CallS X W (.builtin "sorted") bSorted := by
  intro ρ μ σ H us vs Q hm r h
  unfold bSorted at h
  split at h
  · rename_i i
    cases r with
    | cons ru r0 =>
      cases r0
      split at h
      · rename_i kvs e0
        split at h
        · rename_i ks ek
          split at h
          · rename_i hz
            cases ru with
            | ref hr =>
              obtain ⟨ws, q1, q2, _⟩ := hm.get hr e0
              refine ⟨_, call_sortedD hc, _, ws, ks, rfl, .inl q1, q2.trans (keysS_ok ek), hz.1, fun ys p pm sd np => ?_⟩
              have ey : ys = sortS ks := uniqueS (pm.trans (sortS_perm ks).symm) (leS_of_sorted sd) (sortS_sorted ks)
              subst ey
              exact h.ok (newL hm np (RepVs.ofStrs _ fun x hx => List.all_eq_true.mp hz.2 x ((sortS_perm ks).mem_iff.mp hx))) (refN hm)
          · exact h.elim
        · split at h
          · rename_i ks ek
            split at h
            · rename_i hz
              cases ru with
              | ref hr =>
                obtain ⟨ws, q1, q2, _⟩ := hm.get hr e0
                refine ⟨_, call_sortedDI hc, _, ws, ks, rfl, .inl q1, q2.trans (keysI_ok ek), hz, fun ys p pm sd np => ?_⟩
                have ey : ys = sortI ks := sorted_unique (pm.trans (sortI_perm ks).symm) sd (sortI_sorted ks)
                subst ey
                exact h.ok (newL hm np (RepVs.ofInts _)) (refN hm)
            · exact h.elim
          · exact h.elim
      · split at h
        · rename_i xs e1
          obtain ⟨a, vs, rfl, q1, r1⟩ := lstU_ok hm ru e1
          split at h
          · rename_i ss e2
            split at h
            · rename_i hz
              rw [strsU_ok e2] at r1
              have ok := r1.strsOk
              rw [r1.strs] at q1
              refine ⟨_, cr_sortedS, a, ss, rfl, q1, hz, fun ys p pm sd np => ?_⟩
              have ey : ys = sortS ss := uniqueS (pm.trans (sortS_perm ss).symm) (leS_of_sorted sd) (sortS_sorted ss)
              subst ey
              exact h.ok (newL hm np (RepVs.ofStrs _ fun x hx => ok x ((sortS_perm ss).mem_iff.mp hx))) (refN hm)
            · exact h.elim
          · split at h
            · rename_i is e3
              rw [intsU_ok e3] at r1
              rw [r1.ints] at q1
              refine ⟨_, cr_sortedI, a, is, rfl, q1, fun ys p pm sd np => ?_⟩
              have ey : ys = sortI is := sorted_unique (pm.trans (sortI_perm is).symm) sd (sortI_sorted is)
              subst ey
              exact h.ok (newL hm np (RepVs.ofInts _)) (refN hm)
            · exact h.elim
        · exact h.elim
  · exact h.elim
end
end Dg
/-! Dg4: subscripts, slices, dicts, isinstance, methods. -/
namespace Dg
open PySem PySem.Spec PyProof.Rows L2

/-! ### dicts by their pairs -/
def valU (kus : List (Key × U)) (k : Key) : Option U := (kus.find? fun kv => decide (kv.1 = k)).map (·.2)
def putU (kus : List (Key × U)) (k : Key) (u : U) : List (Key × U) :=
  if (kus.any fun kv => decide (kv.1 = k)) = true then kus.map (fun kv => if kv.1 = k then (kv.1, u) else kv) else kus ++ [(k, u)]
structure RepKV (K : PySem.W.Frag) (H : Hp) (ρ : List Addr) (kus : List (Key × U)) (kvs : List (Key × V)) : Prop where
  keys : kvs.map (·.1) = kus.map (·.1)
  vals : RepVs K H ρ (kus.map (·.2)) (kvs.map (·.2))
section
variable {K : PySem.W.Frag} {H : Hp} {ρ : List Addr}
theorem RepKV.nil : RepKV K H ρ [] [] := ⟨rfl, .nil⟩
theorem RepKV.cons {k : Key} {u : U} {v : V} {kus : List (Key × U)} {kvs : List (Key × V)} (r : RepV K H ρ u v) (h : RepKV K H ρ kus kvs) : RepKV K H ρ ((k, u) :: kus) ((k, v) :: kvs) := ⟨by simp [h.keys], .cons r h.vals⟩
theorem RepKV.uncons {p : Key × U} {kus : List (Key × U)} {ws : List (Key × V)} (h : RepKV K H ρ (p :: kus) ws) : ∃ v kvs, ws = (p.1, v) :: kvs ∧ RepV K H ρ p.2 v ∧ RepKV K H ρ kus kvs := by
  obtain ⟨h1, h2⟩ := h
  cases ws with
  | nil => simp at h1
  | cons w ws =>
    simp only [List.map_cons, List.cons.injEq] at h1
    rw [List.map_cons, List.map_cons] at h2
    cases h2 with
    | cons r1 r2 => exact ⟨w.2, ws, by rw [← h1.1], r1, h1.2, r2⟩
theorem RepKV.unnil {ws : List (Key × V)} (h : RepKV K H ρ [] ws) : ws = [] := by
  have := h.keys
  simpa using this
theorem RepKV.length {kus : List (Key × U)} {kvs : List (Key × V)} (h : RepKV K H ρ kus kvs) : kvs.length = kus.length := by
  have := congrArg List.length h.keys
  simpa using this
theorem RepKV.mono {H' : Hp} {ρ' : List Addr} {kus : List (Key × U)} {kvs : List (Key × V)} (t : TX H H') (e : Ext ρ ρ') (h : RepKV K H ρ kus kvs) : RepKV K H' ρ' kus kvs := ⟨h.keys, h.vals.mono t e⟩
theorem RepKV.val {k : Key} : ∀ {kus : List (Key × U)} {kvs : List (Key × V)}, RepKV K H ρ kus kvs → (∀ u, valU kus k = some u → ∃ v, valV kvs k = some v ∧ RepV K H ρ u v) ∧ (valU kus k = none → valV kvs k = none)
  | [], _, h => by rw [h.unnil]; exact ⟨fun u e => by simp [valU] at e, fun _ => rfl⟩
  | p :: kus, ws, h => by
    obtain ⟨v, kvs, rfl, r, t⟩ := h.uncons
    have ih := RepKV.val (k := k) t
    by_cases e : p.1 = k
    · refine ⟨fun u hu => ⟨v, valV_pos e, ?_⟩, fun hn => ?_⟩
      · simp [valU, e] at hu
        exact hu ▸ r
      · simp [valU, e] at hn
    · rw [valV_neg (p := (p.1, v)) e]
      have : valU (p :: kus) k = valU kus k := by simp [valU, e]
      rw [this]
      exact ih
theorem RepKV.any {k : Key} {kus : List (Key × U)} {kvs : List (Key × V)} (h : RepKV K H ρ kus kvs) : (kvs.any fun kv => decide (kv.1 = k)) = (kus.any fun kv => decide (kv.1 = k)) := by
  have e1 : (kvs.any fun kv => decide (kv.1 = k)) = (kvs.map (·.1)).any fun x => decide (x = k) := by simp [List.any_map, Function.comp_def]
  have e2 : (kus.any fun kv => decide (kv.1 = k)) = (kus.map (·.1)).any fun x => decide (x = k) := by simp [List.any_map, Function.comp_def]
  rw [e1, e2, h.keys]
theorem RepKV.mapPut {k : Key} {u : U} {v : V} (r : RepV K H ρ u v) : ∀ {kus : List (Key × U)} {kvs : List (Key × V)}, RepKV K H ρ kus kvs →
    RepKV K H ρ (kus.map fun kv => if kv.1 = k then (kv.1, u) else kv) (kvs.map fun kv => if kv.1 = k then (kv.1, v) else kv)
  | [], _, h => by rw [h.unnil]; exact .nil
  | p :: kus, ws, h => by
    obtain ⟨v0, kvs, rfl, r0, t⟩ := h.uncons
    have ih := RepKV.mapPut (k := k) r t
    rw [List.map_cons, List.map_cons]
    by_cases e : p.1 = k
    · simp only [e, if_true]; exact ih.cons r
    · simp only [e, if_false]; exact ih.cons (k := p.1) r0
theorem RepKV.snoc {k : Key} {u : U} {v : V} (r : RepV K H ρ u v) {kus : List (Key × U)} {kvs : List (Key × V)} (h : RepKV K H ρ kus kvs) : RepKV K H ρ (kus ++ [(k, u)]) (kvs ++ [(k, v)]) := ⟨by simp [h.keys], by
  rw [List.map_append, List.map_append]; exact h.vals.append (.one r)⟩
theorem RepKV.put {k : Key} {u : U} {v : V} (r : RepV K H ρ u v) {kus : List (Key × U)} {kvs : List (Key × V)} (h : RepKV K H ρ kus kvs) : RepKV K H ρ (putU kus k u) (putK kvs k v) := by
  unfold putU putK
  rw [h.any]
  split
  · exact h.mapPut r
  · exact h.snoc r
theorem dct_of {μ : Mem} (hm : RepM K H ρ μ) {i : Nat} {a : Addr} {kus : List (Key × U)} (e : ρ[i]? = some a) (h : μ[i]? = some (.dct kus)) : ∃ kvs, H a = some (.dK kvs) ∧ RepKV K H ρ kus kvs := by
  obtain ⟨kvs, q, w, r⟩ := hm.get e h
  exact ⟨kvs, q, w, r⟩
theorem newD {μ : Mem} (hm : RepM K H ρ μ) {p : Addr} {kus : List (Key × U)} {kvs : List (Key × V)} (np : H p = none) (r : RepKV K H ρ kus kvs) : Stp K ρ H (ρ ++ [p]) (upd H p (.dK kvs)) (μ ++ [.dct kus]) :=
  Stp.new hm np ⟨kvs, upd_same, r.keys, (r.mono (TX.new np) (Ext.snoc ρ p)).vals⟩
theorem putD {μ : Mem} (hm : RepM K H ρ μ) {i : Nat} {a : Addr} {kus kus' : List (Key × U)} {kvs' : List (Key × V)} (e : ρ[i]? = some a) (h : μ[i]? = some (.dct kus)) (r : RepKV K H ρ kus' kvs') : Stp K ρ H ρ (upd H a (.dK kvs')) (μ.set i (.dct kus')) := by
  have t : TX H (upd H a (.dK kvs')) := (hm.get e h).tx rfl
  exact Stp.put hm e h rfl ⟨kvs', upd_same, r.keys, (r.mono t (Ext.refl _)).vals⟩
theorem putL {μ : Mem} (hm : RepM K H ρ μ) {i : Nat} {a : Addr} {us us' : List U} {vs' : List V} (e : ρ[i]? = some a) (h : μ[i]? = some (.lst us)) (r : RepVs K H ρ us' vs') : Stp K ρ H ρ (upd H a (.lst vs')) (μ.set i (.lst us')) := by
  have t : TX H (upd H a (.lst vs')) := (hm.get e h).tx rfl
  exact Stp.put hm e h rfl ⟨vs', upd_same, r.mono t (Ext.refl _)⟩
end
def keyU : U → Option Key
  | .int i => some (.inl i)
  | .str x => some (.inr x)
  | _ => none
theorem keyU_ok {K : PySem.W.Frag} {H : Hp} {ρ : List Addr} {u : U} {v : V} {k : Key} (r : RepV K H ρ u v) (e : keyU u = some k) : v = kV k := by
  cases r with
  | int => cases e; rfl
  | str _ => cases e; rfl
  | _ => cases e

section
variable {X : Cx} {W : WX} {k : Nat}
/-! ### subscripts -/
def opt {α : Type} (o : Option α) (μ : Mem) : Res α := match o with
  | some a => .ok a μ
  | none => .bad
def dctU (μ : Mem) : U → Option (List (Key × U))
  | .ref i => match μ[i]? with
    | some (.dct kus) => some kus
    | some (.lst _) => none
    | some (.fdc _) => none
    | some (.dtt _) => none
    | some (.fdt _) => none
    | some (.obj _ _) => none
    | none => none
  | _ => none
def ixU (u w : U) (μ : Mem) : Res U := match dctU μ u with
  | some kus => match keyU w with
    | some k => opt (valU kus k) μ
    | none => .bad
  | none => match u, w with
    | .str z, .int i => if z.length ≤ lim then opt ((atI z.cps.toList i).map fun c => .str ⟨#[c]⟩) μ else .bad
    | u, .int i => match seqU μ u with
      | some us => opt (atI us i) μ
      | none => .bad
    | _, _ => .bad
theorem RepVs.atI {K : PySem.W.Frag} {H : Hp} {ρ : List Addr} {us : List U} {vs : List V} {i : Int} {u : U} (r : RepVs K H ρ us vs) (e : atI us i = some u) : ∃ v, L2.atI vs i = some v ∧ RepV K H ρ u v := by
  unfold L2.atI at *
  rw [← r.length]
  obtain ⟨j, h1, h2⟩ := Option.bind_eq_some_iff.mp e
  obtain ⟨v, q, w⟩ := r.get h2
  exact ⟨v, Option.bind_eq_some_iff.mpr ⟨j, h1, q⟩, w⟩
theorem strOk_sign {z : Str} {i : Int} {c : Nat} (h : PyData.strOk z = true) (e : L2.atI z.cps.toList i = some c) : PyData.strOk ⟨#[c]⟩ = true := by
  unfold L2.atI at e
  obtain ⟨j, _, h2⟩ := Option.bind_eq_some_iff.mp e
  have hc : c ∈ z.cps := by
    have := List.mem_of_getElem? h2
    exact Array.mem_toList_iff.mp this
  unfold PyData.strOk at *
  rw [Array.all_eq_true'] at *
  intro x hx
  have : x = c := by simpa using hx
  subst this
  exact h x hc
theorem ix_ok {ρ : List Addr} {μ : Mem} {σ : L2.St} {H : Hp} {u w : U} {x y : V} {Q : VK} (hm : RepM X.K H ρ μ) (ru : RepV X.K H ρ u x) (rw' : RepV X.K H ρ w y) (hd : dctU μ u = none) (h : Post X W σ relV ρ H (ixU u w μ) Q) : IxW X x y H Q := by
  unfold ixU at h
  rw [hd] at h
  simp only at h
  split at h
  · rename_i z i
    cases ru with
    | str hz =>
      cases rw'
      split at h
      · cases e : L2.atI z.cps.toList i with
        | none => rw [e] at h; exact h.elim
        | some c =>
          rw [e] at h
          exact ⟨_, ix_str, z, i, c, rfl, rfl, lim_le (by assumption), e, h.ok (Stp.refl hm) (.str (strOk_sign hz e))⟩
      · exact h.elim
  · rename_i i _
    cases rw'
    cases e : seqU μ u with
    | none => rw [e] at h; exact h.elim
    | some us =>
      rw [e] at h
      obtain ⟨a, vs, rfl, q, r⟩ := seqU_ok hm ru e
      simp only at h
      cases e2 : L2.atI us i with
      | none => rw [e2] at h; exact h.elim
      | some z =>
        rw [e2] at h
        obtain ⟨v, q2, r2⟩ := r.atI e2
        have qq := h.ok (Stp.refl hm) r2
        rcases q with q | q
        · exact ⟨_, ix_list, a, vs, i, v, rfl, rfl, q, q2, qq⟩
        · exact ⟨_, ix_tup, a, vs, i, v, rfl, rfl, q, q2, qq⟩
  · exact h.elim
theorem dget_ok {ρ : List Addr} {μ : Mem} {σ : L2.St} {H : Hp} {u w : U} {x y : V} {Q : VK} {kus : List (Key × U)} (hm : RepM X.K H ρ μ) (ru : RepV X.K H ρ u x) (rw' : RepV X.K H ρ w y) (hd : dctU μ u = some kus) (h : Post X W σ relV ρ H (ixU u w μ) Q) :
    ∃ a v, x = .ref a ∧ DGet H a y (some v) ∧ Q v H := by
  unfold ixU at h
  rw [hd] at h
  simp only at h
  cases ek : keyU w with
  | none => rw [ek] at h; exact h.elim
  | some k =>
    rw [ek] at h
    simp only at h
    cases ev : valU kus k with
    | none => rw [ev] at h; exact h.elim
    | some z =>
      rw [ev] at h
      cases ru with
      | ref hr =>
        rename_i i a
        have e1 : μ[i]? = some (.dct kus) := by
          unfold dctU at hd
          simp only at hd
          split at hd
          all_goals first
            | (cases hd; assumption)
            | (cases hd; done)
        obtain ⟨kvs, q1, r1⟩ := dct_of hm hr e1
        obtain ⟨v, q2, r2⟩ := r1.val.1 z ev
        refine ⟨a, v, rfl, ?_, h.ok (Stp.refl hm) r2⟩
        rw [keyU_ok rw' ek, ← q2]
        exact DGet.k q1
      | _ => simp [dctU] at hd
theorem ce_sub {a b : Expr} {ma mb : FE} {pos : Pos} (G : Good X W (k + 40)) (ha : CE X W a ma) (hb : CE X W b mb) (hp : PlainIx b := by exact fun _ _ => rfl) (hn : NoSl b := by exact fun _ _ => rfl) : CE X W (.Subscript a b pos) (fOp ixU ma mb) := by
  intro ρ μ s σ H Q hs hm h
  by_cases hd : ∃ u μ1 w μ2 kus, ma s μ = .ok u μ1 ∧ mb s μ1 = .ok w μ2 ∧ dctU μ2 u = some kus
  · obtain ⟨u0, μ10, w0, μ20, kus, e1, e2, e3⟩ := hd
    refine ⟨_, pe_dget G.hu pe_w pe_w hn, ?_⟩
    unfold fOp at h
    rw [e1] at h
    refine ha ρ μ s σ H _ hs hm ?_
    rw [e1]
    intro x H1 ρ1 t1 r1
    have h1 : Post X W σ relV ρ H ((mb s μ10).bind fun w μ2 => ixU u0 w μ2) Q := h
    refine hb ρ1 μ10 s σ H1 _ (t1.s hs) t1.mem ?_
    rw [e2] at h1 ⊢
    intro y H2 ρ2 t2 r2
    have h2 : Post X W σ relV ρ H (ixU u0 w0 μ20) Q := h1
    refine dget_ok (W := W) (σ := σ) t2.mem (t2.v r1) r2 e3 ?_
    generalize ixU u0 w0 μ20 = z at h2
    cases z with
    | ok c m2 => exact fun v2 H3 ρ3 t3 q3 => h2 v2 H3 ρ3 ((t1.trans t2).trans t3) q3
    | ex c m2 => exact fun cls H3 ρ3 t3 e => h2 cls H3 ρ3 ((t1.trans t2).trans t3) e
    | bad => exact h2
  · refine ⟨_, pe_ix ix_w pe_w pe_w hp, ?_⟩
    have hd' : ∀ u μ1 w μ2, ma s μ = .ok u μ1 → mb s μ1 = .ok w μ2 → dctU μ2 u = none := fun u μ1 w μ2 e1 e2 => by
      cases e : dctU μ2 u with
      | none => rfl
      | some kus => exact absurd ⟨u, μ1, w, μ2, kus, e1, e2, e⟩ hd
    unfold fOp at h
    refine ha ρ μ s σ H _ hs hm ?_
    cases e1 : ma s μ with
    | ex c m => rw [e1] at h; exact h
    | bad => rw [e1] at h; exact h
    | ok u0 μ10 =>
      rw [e1] at h
      intro x H1 ρ1 t1 r1
      have h1 : Post X W σ relV ρ H ((mb s μ10).bind fun w μ2 => ixU u0 w μ2) Q := h
      refine hb ρ1 μ10 s σ H1 _ (t1.s hs) t1.mem ?_
      cases e2 : mb s μ10 with
      | ex c m => rw [e2] at h1; exact fun cls H3 ρ3 t3 e => h1 cls H3 ρ3 (t1.trans t3) e
      | bad => rw [e2] at h1; exact h1
      | ok w0 μ20 =>
        rw [e2] at h1
        intro y H2 ρ2 t2 r2
        have h2 : Post X W σ relV ρ H (ixU u0 w0 μ20) Q := h1
        refine ix_ok (W := W) (σ := σ) t2.mem (t2.v r1) r2 (hd' u0 μ10 w0 μ20 e1 e2) ?_
        generalize ixU u0 w0 μ20 = z at h2
        cases z with
        | ok c m2 => exact fun v2 H3 ρ3 t3 q3 => h2 v2 H3 ρ3 ((t1.trans t2).trans t3) q3
        | ex c m2 => exact fun cls H3 ρ3 t3 e => h2 cls H3 ρ3 ((t1.trans t2).trans t3) e
        | bad => exact h2

/-! ### slices -/
abbrev FO := Slots → Mem → Res (Option Int)
def WO (X : Cx) (e : Option Expr) : TO := fun σ H Q => ∃ t, PO X e t ∧ t σ H Q
theorem po_w {e : Option Expr} : PO X e (WO X e) := ⟨fun pins s σ H Q I ⟨_, h, q⟩ => h.run pins s σ H Q I q⟩
def CO (X : Cx) (W : WX) (e : Option Expr) (m : FO) : Prop := ∀ ρ μ s σ H Q, RepS X.K H ρ s σ → RepM X.K H ρ μ → Post X W σ relO ρ H (m s μ) Q → WO X e σ H Q
def oNone : FO := fun _ μ => .ok none μ
def oSome (a : FE) : FO := fun s μ => (a s μ).bind fun u μ1 => match u with
  | .int i => .ok (some i) μ1
  | _ => .bad
theorem co_none : CO X W none oNone := fun ρ μ s σ H Q hs hm h => ⟨_, po_none, h.ok (Stp.refl hm) rfl⟩
theorem co_some {e : Expr} {me : FE} (he : CE X W e me) : CO X W (some e) (oSome me) := by
  intro ρ μ s σ H Q hs hm h
  refine ⟨_, po_some pe_w, ?_⟩
  refine he ρ μ s σ H _ hs hm (h.bind fun u μ1 x H1 ρ1 t1 r1 h1 => ?_)
  split at h1
  · cases r1
    exact ⟨_, rfl, h1.ok (Stp.refl t1.mem) rfl⟩
  · exact h1.elim
def SlW (X : Cx) : V → Option Int → Option Int → Hp → VK → Prop := fun x lo hi H Q => ∃ r, SlR X r ∧ r x lo hi H Q
theorem sl_w : SlR X (SlW X) := fun pins s σ H x v vl vu lo hi sl Q I rx hs pl pu ⟨_, h, q⟩ => h pins s σ H x v vl vu lo hi sl Q I rx hs pl pu q
def cutU {α : Type} (xs : List α) (lo hi : Option Int) : List α := (xs.drop (HT.sIx xs.length 0 lo)).take (HT.sIx xs.length xs.length hi - HT.sIx xs.length 0 lo)
theorem RepVs.cut {K : PySem.W.Frag} {H : Hp} {ρ : List Addr} {us : List U} {vs : List V} (r : RepVs K H ρ us vs) (lo hi : Option Int) : RepVs K H ρ (cutU us lo hi) (cutV vs lo hi) := by
  unfold cutU cutV
  rw [r.length]
  exact (r.drop _).take _
def slU (u : U) (lo hi : Option Int) (μ : Mem) : Res U := match u with
  | .str z => if z.length ≤ lim then .ok (.str (cutS z lo hi)) μ else .bad
  | .tup us => .ok (.tup (cutU us lo hi)) μ
  | u => match lstU μ u with
    | some us => .ok (.ref μ.length) (μ ++ [.lst (cutU us lo hi)])
    | none => .bad
def fSl (a : FE) (lo hi : FO) : FE := fun s μ => (a s μ).bind fun u μ1 => (lo s μ1).bind fun l μ2 => (hi s μ2).bind fun h μ3 => slU u l h μ3
theorem strOk_cut {z : Str} (h : PyData.strOk z = true) (lo hi : Option Int) : PyData.strOk (cutS z lo hi) = true := by
  unfold PyData.strOk at *
  rw [Array.all_eq_true'] at *
  intro x hx
  apply h x
  have h1 : x ∈ (z.cps.toList.drop (HT.sIx z.length 0 lo)).take (HT.sIx z.length z.length hi - HT.sIx z.length 0 lo) := by simpa [cutS] using hx
  exact Array.mem_toList_iff.mp (List.mem_of_mem_drop (List.mem_of_mem_take h1))
theorem cut_whole {α : Type} {xs : List α} {lo hi : Option Int} (h : HT.sIx xs.length 0 lo = 0 ∧ HT.sIx xs.length xs.length hi = xs.length) : cutU xs lo hi = xs := by
  unfold cutU
  rw [h.1, h.2, List.drop_zero, Nat.sub_zero, List.take_length]
theorem ce_slice {e : Expr} {lo hi : Option Expr} {me : FE} {ml mh : FO} {p2 pos : Pos} (he : CE X W e me) (hl : CO X W lo ml) (hh : CO X W hi mh) : CE X W (.Subscript e (.Slice lo hi none p2) pos) (fSl me ml mh) := by
  intro ρ μ s σ H Q hs hm h
  refine ⟨_, pe_slice sl_w pe_w po_w po_w, ?_⟩
  refine he ρ μ s σ H _ hs hm (h.bind fun u μ1 x H1 ρ1 t1 r1 h1 => ?_)
  refine hl ρ1 μ1 s σ H1 _ (t1.s hs) t1.mem (h1.bind fun a μ2 a' H2 ρ2 t2 r2 h2 => ?_)
  refine hh ρ2 μ2 s σ H2 _ (t2.s (t1.s hs)) t2.mem (h2.bind fun b μ3 b' H3 ρ3 t3 r3 h3 => ?_)
  cases r2
  cases r3
  have r4 := t3.v (t2.v r1)
  unfold slU at h3
  split at h3
  · cases r4 with
    | str hz =>
      split at h3
      · exact ⟨_, sl_str, _, rfl, lim_le (by assumption), h3.ok (Stp.refl t3.mem) (.str (strOk_cut hz _ _))⟩
      · exact h3.elim
  · cases r4 with
    | tup hs4 hr4 =>
      refine ⟨_, sl_tupA, _, _, rfl, hs4, fun c => ?_, fun c p np => h3.ok (Stp.temp t3.mem np) (newT np (hr4.cut _ _))⟩
      rw [← hr4.length] at c
      rw [cut_whole c] at h3
      exact h3.ok (Stp.refl t3.mem) (.tup hs4 hr4)
  · split at h3
    · rename_i us e1
      obtain ⟨p, vs, rfl, q1, r5⟩ := lstU_ok t3.mem r4 e1
      exact ⟨_, sl_list, _, _, rfl, q1, fun p np => h3.ok (newL t3.mem np (r5.cut _ _)) (refN t3.mem)⟩
    · exact h3.elim

/-! ### in -/
def inU (u w : U) (μ : Mem) : Option Bool := match w with
  | .str z => match u with
    | .str x => some (!(Builtin.Str.occurrences z x 0 z.length 1).isEmpty)
    | _ => none
  | w => match dctU μ w with
    | some kus => match keyU u with
      | some k => some (valU kus k).isSome
      | none => none
    | none => match seqU μ w with
      | some us => match datU μ u, toDs (refD μ 6) us with
        | some d, some ds => if d.depth ≤ 700 then some (ds.any fun y => PyData.eqv y d) else none
        | _, _ => none
      | none => none
def uIn (u w : U) (μ : Mem) : Res U := resB (inU u w μ) μ
def uNin (u w : U) (μ : Mem) : Res U := resB ((inU u w μ).map not) μ
def rInL (K : PySem.W.Frag) (neg : Bool) : R2 := fun x y H Q => ∃ d p xs ds, Dp K H x d ∧ y = .ref p ∧ (SqL K H p xs ∨ SqT K H p xs) ∧ DpAll K H xs ds ∧ d.canLay0 = true ∧ PyData.canLayAll0 ds = true ∧ d.depth ≤ 700 ∧ Q (.bl (if neg then !ds.any fun z => PyData.eqv z d else ds.any fun z => PyData.eqv z d)) H
theorem op_inL (hu : X.A.units + 800 < cLine) : OpR X (compareOp .In) (rInL X.K false) := by
  intro pins s σ H x y v u Q I rx ry h
  obtain ⟨d, p, xs, ds, hd, rfl, hq, he, sd, se, hl, q⟩ := h
  obtain ⟨as, r1⟩ := Dp.reads I d x v hd rx
  have hroom : X.A.units + 1 + min (PyData.depthAll ds) d.depth < cLine := by
    have h2 : min (PyData.depthAll ds) d.depth ≤ d.depth := Nat.min_le_right _ _
    omega
  rcases hq with hq | hq
  · obtain ⟨bs, r2⟩ := Dp.reads I (.list ds) (.ref p) u (.lst hq he) ry
    exact SeqAt.in_list_reads r2 r1 se sd hroom ⟨.bl _, H, I, rfl, q⟩
  · obtain ⟨bs, r2⟩ := Dp.reads I (.tuple ds) (.ref p) u (.tup hq he) ry
    exact SeqAt.in_tuple_reads r2 r1 se sd hroom ⟨.bl _, H, I, rfl, q⟩
theorem op_ninL (hu : X.A.units + 800 < cLine) : OpR X (compareOp .NotIn) (rInL X.K true) := by
  intro pins s σ H x y v u Q I rx ry h
  obtain ⟨d, p, xs, ds, hd, rfl, hq, he, sd, se, hl, q⟩ := h
  obtain ⟨as, r1⟩ := Dp.reads I d x v hd rx
  have hroom : X.A.units + 1 + min (PyData.depthAll ds) d.depth < cLine := by
    have h2 : min (PyData.depthAll ds) d.depth ≤ d.depth := Nat.min_le_right _ _
    omega
  rcases hq with hq | hq
  · obtain ⟨bs, r2⟩ := Dp.reads I (.list ds) (.ref p) u (.lst hq he) ry
    exact SeqAt.notIn_list_reads r2 r1 se sd hroom ⟨.bl _, H, I, rfl, q⟩
  · obtain ⟨bs, r2⟩ := Dp.reads I (.tuple ds) (.ref p) u (.tup hq he) ry
    exact SeqAt.notIn_tuple_reads r2 r1 se sd hroom ⟨.bl _, H, I, rfl, q⟩
/-- in a dict, by values -/
theorem op_inDc (hu : X.A.units + 1 < cLine) : OpR X (compareOp .In) (fun x y H Q => ∃ a o, y = .ref a ∧ DGet H a x o ∧ Q (.bl o.isSome) H) := by
  intro pins s σ H x y v u Q I rx ry h
  obtain ⟨a, o, rfl, g, q⟩ := h
  cases ry
  exact d_in hu I g rx fun s3 I3 => ⟨.bl o.isSome, H, I3, rfl, q⟩
theorem op_ninDc (hu : X.A.units + 1 < cLine) : OpR X (compareOp .NotIn) (fun x y H Q => ∃ a o, y = .ref a ∧ DGet H a x o ∧ Q (.bl (!o.isSome)) H) := by
  intro pins s σ H x y v u Q I rx ry h
  obtain ⟨a, o, rfl, g, q⟩ := h
  cases ry
  exact d_notIn hu I g rx fun s3 I3 => ⟨.bl (!o.isSome), H, I3, rfl, q⟩
theorem dct_at {K : PySem.W.Frag} {ρ : List Addr} {μ : Mem} {H : Hp} {u : U} {x : V} {kus : List (Key × U)} (hm : RepM K H ρ μ) (ru : RepV K H ρ u x) (hd : dctU μ u = some kus) : ∃ a kvs, x = .ref a ∧ H a = some (.dK kvs) ∧ RepKV K H ρ kus kvs := by
  cases ru with
  | ref hr =>
    rename_i i a
    have e1 : μ[i]? = some (.dct kus) := by
      unfold dctU at hd
      simp only at hd
      split at hd
      all_goals first
        | (cases hd; assumption)
        | (cases hd; done)
    obtain ⟨kvs, q1, r1⟩ := dct_of hm hr e1
    exact ⟨a, kvs, rfl, q1, r1⟩
  | _ => simp [dctU] at hd
def InV (K : PySem.W.Frag) (H : Hp) (x y : V) (b : Bool) : Prop :=
  (∃ d p xs ds, Dp K H x d ∧ y = .ref p ∧ (SqL K H p xs ∨ SqT K H p xs) ∧ DpAll K H xs ds ∧ d.canLay0 = true ∧ PyData.canLayAll0 ds = true ∧ d.depth ≤ 700 ∧ b = ds.any fun z => PyData.eqv z d) ∨
  (∃ a o, y = .ref a ∧ DGet H a x o ∧ b = o.isSome) ∨ ∃ i j, x = .str i ∧ y = .str j ∧ b = !(Builtin.Str.occurrences j i 0 j.length 1).isEmpty
theorem in_ok {K : PySem.W.Frag} {H : Hp} {ρ : List Addr} {μ : Mem} {u w : U} {x y : V} {b : Bool} (hm : RepM K H ρ μ) (ru : RepV K H ρ u x) (rw' : RepV K H ρ w y) (e : inU u w μ = some b) : InV K H x y b := by
  have main : ∀ w' : U, w' = w → (match dctU μ w' with
    | some kus => match keyU u with
      | some k => some (valU kus k).isSome
      | none => none
    | none => match seqU μ w' with
      | some us => match datU μ u, toDs (refD μ 6) us with
        | some d, some ds => if d.depth ≤ 700 then some (ds.any fun y => PyData.eqv y d) else none
        | _, _ => none
      | none => none) = some b → InV K H x y b := by
    intro w' ew h
    subst ew
    cases hd : dctU μ w' with
    | some kus =>
      rw [hd] at h
      simp only at h
      obtain ⟨a, kvs, rfl, q1, r1⟩ := dct_at hm rw' hd
      cases ek : keyU u with
      | none => rw [ek] at h; cases h
      | some k =>
        rw [ek] at h
        cases h
        refine .inr (.inl ⟨a, valV kvs k, rfl, ?_, ?_⟩)
        · rw [keyU_ok ru ek]; exact DGet.k q1
        · cases ev : valU kus k with
          | none => rw [r1.val.2 ev]; rfl
          | some z => obtain ⟨v, q2, _⟩ := r1.val.1 z ev; rw [q2]; rfl
    | none =>
      rw [hd] at h
      simp only at h
      cases es : seqU μ w' with
      | none => rw [es] at h; cases h
      | some us =>
        rw [es] at h
        simp only at h
        obtain ⟨a, vs, rfl, q, r⟩ := seqU_ok hm rw' es
        cases e1 : datU μ u with
        | none => rw [e1] at h; cases h
        | some d =>
          cases e2 : toDs (refD μ 6) us with
          | none => rw [e1, e2] at h; cases h
          | some ds =>
            rw [e1, e2] at h
            simp only at h
            obtain ⟨a1, a2⟩ := datU_ok hm ru e1
            obtain ⟨b1, b2⟩ := toDs_ok (refD_ok hm 6) us vs ds r e2
            split at h
            · cases h
              exact .inl ⟨d, a, vs, ds, a1, rfl, q, b1, a2, b2, by assumption, rfl⟩
            · cases h
  cases w with
  | str z =>
    cases rw'
    cases u with
    | str s =>
      cases ru
      simp only [inU, Option.some.injEq] at e
      exact .inr (.inr ⟨s, z, rfl, rfl, e.symm⟩)
    | _ => simp [inU] at e
  | non => exact main _ rfl e
  | bl b => exact main _ rfl e
  | int b => exact main _ rfl e
  | tup b => exact main _ rfl e
  | ref b => exact main _ rfl e
  | frl b => exact main _ rfl e
theorem os_in (G : Good X W (k + 40)) : OpS X W (compareOp .In) uIn := by
  intro ρ μ σ H u w x y Q hm ru rw' h
  unfold uIn at h
  cases e : inU u w μ with
  | none => rw [e] at h; exact h.elim
  | some b =>
    rw [e] at h
    have q := h.ok (Stp.refl hm) (RepV.bl (b := b))
    rcases in_ok hm ru rw' e with ⟨d, p, xs, ds, a1, a2, a3, a4, a5, a6, a7, rfl⟩ | ⟨a, o, a1, a2, rfl⟩ | ⟨i, j, a1, a2, rfl⟩
    · exact ⟨_, op_inL G.un, d, p, xs, ds, a1, a2, a3, a4, a5, a6, a7, q⟩
    · exact ⟨_, op_inDc G.hu, a, o, a1, a2, q⟩
    · exact ⟨_, op_in_str, i, j, a1, a2, q⟩
theorem os_nin (G : Good X W (k + 40)) : OpS X W (compareOp .NotIn) uNin := by
  intro ρ μ σ H u w x y Q hm ru rw' h
  unfold uNin at h
  cases e : inU u w μ with
  | none => rw [e] at h; exact h.elim
  | some b =>
    rw [e] at h
    have q := h.ok (Stp.refl hm) (RepV.bl (b := !b))
    rcases in_ok hm ru rw' e with ⟨d, p, xs, ds, a1, a2, a3, a4, a5, a6, a7, rfl⟩ | ⟨a, o, a1, a2, rfl⟩ | ⟨i, j, a1, a2, rfl⟩
    · exact ⟨_, op_ninL G.un, d, p, xs, ds, a1, a2, a3, a4, a5, a6, a7, q⟩
    · exact ⟨_, op_ninDc G.hu, a, o, a1, a2, q⟩
    · exact ⟨_, op_notin_str, i, j, a1, a2, q⟩

/-! ### isinstance of a built-in class -/
def tyU (μ : Mem) : U → Option String
  | .non => some "NoneType"
  | .bl _ => some "bool"
  | .int _ => some "int"
  | .str _ => some "str"
  | .tup _ => some "tuple"
  | .ref i => match μ[i]? with
    | some (.lst _) => some "list"
    | some (.dct _) => some "dict"
    | some (.fdc _) => none
    | some (.dtt _) => none
    | some (.fdt _) => none
    | some (.obj _ _) => none
    | none => none
  | .frl _ => some "list"
theorem tyU_ok {K : PySem.W.Frag} {H : Hp} {ρ : List Addr} {μ : Mem} (hm : RepM K H ρ μ) {u : U} {v : V} {t : String} (r : RepV K H ρ u v) (e : tyU μ u = some t) : TyX K H v (.type t) := by
  cases r with
  | non => cases e; exact .base .non
  | bl => cases e; exact .base (.bl _)
  | int => cases e; exact .base (.int _)
  | str _ => cases e; exact .base (.str _)
  | tup hs _ =>
    cases e
    rcases hs with (h | ⟨o, h⟩) | ⟨o, its, n, h, c, _⟩
    · exact .base (.tup h)
    · exact .fTuple h
    · exact .kTuple h c
  | ref hr =>
    obtain ⟨c, hc, rc⟩ := hm.at hr
    simp only [tyU, hc] at e
    cases c with
    | lst us => obtain ⟨vs, q, _⟩ := rc; cases e; exact .base (.lst q)
    | dct us => obtain ⟨vs, q, _⟩ := rc; cases e; exact .base (.dK q)
    | _ => cases e
  | frl hs _ =>
    cases e
    rcases hs with ⟨o, h⟩ | ⟨o, its, n, h, c, _⟩
    · exact .base (.frz h)
    · exact .kList h c
def isTy (T : String) (t : String) : Bool := t == T || (T == "int" && t == "bool")
def fIsi (T : String) (a : FE) : FE := fun s μ => (a s μ).bind fun u μ1 => match tyU μ1 u with
  | some t => .ok (.bl (isTy T t)) μ1
  | none => .bad
theorem kitK {K : PySem.W.Frag} {T : String} (hT : ∀ t ∈ ["NoneType", "bool", "int", "str", "tuple", "list", "dict"], kitB t T = some (isTy T t)) {μ : Mem} {u : U} {t : String} (e : tyU μ u = some t) : PySem.W.kitOne K (.type t) (.type T) = some (isTy T t) := by
  apply kit_ty
  apply hT
  cases u with
  | ref i =>
    simp only [tyU] at e
    split at e <;> first | (cases e; simp) | cases e
  | _ => cases e; simp
theorem ce_isi {T : String} {x : Str} {a : Expr} {ma : FE} {p p2 pos : Pos} (hT : ∀ t ∈ ["NoneType", "bool", "int", "str", "tuple", "list", "dict"], kitB t T = some (isTy T t)) (ha : CE X W a ma)
    (hT2 : PE X (.Name x p2) (tC (.ty T)))
    (hp : ∀ {r : List V → Hp → VK → Prop} {t : TA}, CallR X (.builtin "isinstance") r → PA X [a, .Name x p2] t → PE X (.Call (.Name "isinstance" p) [a, .Name x p2] [] pos) (tCB r t))
    (hs1 : starEach [a, .Name x p2] X.env = (false, eval a X.env) :: starEach [.Name x p2] X.env := by rfl) (hs2 : starEach [.Name x p2] X.env = (false, eval (.Name x p2) X.env) :: starEach [] X.env := by rfl) :
    CE X W (.Call (.Name "isinstance" p) [a, .Name x p2] [] pos) (fIsi T ma) := by
  intro ρ μ s σ H Q hs hm h
  refine ⟨_, hp call_isi (pa_cons pe_w (pa_cons hT2 pa_nil hs2) hs1), ?_⟩
  refine ha ρ μ s σ H _ hs hm (h.bind fun u μ1 v H1 ρ1 t1 r1 h1 => ?_)
  cases e : tyU μ1 u with
  | none => rw [e] at h1; exact h1.elim
  | some t =>
    rw [e] at h1
    exact ⟨v, .ty T, .type t, .type T, isTy T t, rfl, .ty T, tyU_ok t1.mem r1 e, kitK hT e, h1.ok (Stp.refl t1.mem) .bl⟩

/-! ### methods of lists -/
def MtW (X : Cx) (id : String) : V → List V → Hp → VK → Prop := fun x vs H Q => ∃ r, MtR X id r ∧ r x vs H Q
theorem mt_w {id : String} : MtR X id (MtW X id) := fun pins s σ H x xs v us Q I rx rxs ⟨_, h, q⟩ => h pins s σ H x xs v us Q I rx rxs q
def fMt (g : U → List U → Mem → Res U) (o : FE) (a : FA) : FE := fun s μ => (o s μ).bind fun u μ1 => (a s μ1).bind fun us μ2 => g u us μ2
/-- the receiver is known to be a list ahead of the arguments -/
def fMtL (g : U → List U → Mem → Res U) (o : FE) (a : FA) : FE := fun s μ => (o s μ).bind fun u μ1 => match lstU μ1 u with
  | some _ => (a s μ1).bind fun us μ2 => g u us μ2
  | none => .bad
def MtS (X : Cx) (W : WX) (id : String) (g : U → List U → Mem → Res U) : Prop := ∀ ρ μ σ H u us x vs Q, RepM X.K H ρ μ → RepV X.K H ρ u x → RepVs X.K H ρ us vs → Post X W σ relV ρ H (g u us μ) Q → MtW X id x vs H Q
theorem ce_mtL {id : String} {name : Str} {o e : Expr} {es : List Expr} {mo : FE} {ma : FA} {g : U → List U → Mem → Res U} {apos cpos : Pos} (hg : MtS X W id g) (ho : CE X W o mo) (ha : CA X W (e :: es) ma)
    (hp : ∀ {r : V → List V → Hp → VK → Prop} {to : TE} {t : TA}, MtR X id r → PE X o to → PA X (e :: es) t → PE X (.Call (.Attribute o name apos) (e :: es) [] cpos) (tBM X.K "list" r to t)) : CE X W (.Call (.Attribute o name apos) (e :: es) [] cpos) (fMtL g mo ma) := by
  intro ρ μ s σ H Q hs hm h
  refine ⟨_, hp mt_w pe_w pa_w, ?_⟩
  refine ho ρ μ s σ H _ hs hm (h.bind fun u μ1 x H1 ρ1 t1 r1 h1 => ?_)
  split at h1
  · rename_i us e
    obtain ⟨a, vs, rfl, q, _⟩ := lstU_ok t1.mem r1 e
    refine ⟨.inl ⟨rfl, vs, q⟩, ?_⟩
    exact ha ρ1 μ1 s σ H1 _ (t1.s hs) t1.mem (h1.bind fun us μ2 vs H2 ρ2 t2 r2 h2 => hg ρ2 μ2 σ H2 u us _ vs Q t2.mem (t2.v r1) r2 h2)
  · exact h1.elim
theorem ce_mtL0 {id : String} {name : Str} {o : Expr} {mo : FE} {g : U → List U → Mem → Res U} {apos cpos : Pos} (hg : MtS X W id g) (ho : CE X W o mo)
    (hp : ∀ {r : V → List V → Hp → VK → Prop} {to : TE}, MtR X id r → PE X o to → PE X (.Call (.Attribute o name apos) [] [] cpos) (tBM0 X.K "list" r to)) : CE X W (.Call (.Attribute o name apos) [] [] cpos) (fMtL g mo aNil) := by
  intro ρ μ s σ H Q hs hm h
  refine ⟨_, hp mt_w pe_w, ?_⟩
  refine ho ρ μ s σ H _ hs hm (h.bind fun u μ1 x H1 ρ1 t1 r1 h1 => ?_)
  split at h1
  · rename_i us e
    obtain ⟨a, vs, rfl, q, _⟩ := lstU_ok t1.mem r1 e
    exact ⟨.inl ⟨rfl, vs, q⟩, hg ρ1 μ1 σ H1 u [] _ [] Q t1.mem r1 .nil h1⟩
  · exact h1.elim
def gAppend (u : U) (us : List U) (μ : Mem) : Res U := match u, us with
  | .ref i, [w] => match μ[i]? with
    | some (.lst xs) => if xs.length < lim then .ok .non (μ.set i (.lst (xs ++ [w]))) else .bad
    | _ => .bad
  | _, _ => .bad
theorem gs_append : MtS X W "list.append" gAppend := by
  intro ρ μ σ H u us x vs Q hm ru rus h
  unfold gAppend at h
  split at h
  · split at h
    · rename_i e
      split at h
      · cases ru with
        | ref hr =>
          cases rus with
          | cons r1 r2 =>
            cases r2
            obtain ⟨ws, q, rr⟩ := lst_of hm hr e
            exact ⟨_, mt_append, _, ws, _, rfl, rfl, q, by rw [← rr.length]; exact lim_lt (by assumption), h.ok (putL hm hr e (rr.append (.one r1))) .non⟩
      · exact h.elim
    · exact h.elim
  · exact h.elim
def gExtend (u : U) (us : List U) (μ : Mem) : Res U := match u, us with
  | .ref i, [.ref j] => match μ[i]?, μ[j]? with
    | some (.lst xs), some (.lst ys) => if xs.length + ys.length ≤ lim then .ok .non (μ.set i (.lst (xs ++ ys))) else .bad
    | _, _ => .bad
  | _, _ => .bad
theorem gs_extend : MtS X W "list.extend" gExtend := by
  intro ρ μ σ H u us x vs Q hm ru rus h
  unfold gExtend at h
  split at h
  · split at h
    · rename_i e e2
      split at h
      · cases ru with
        | ref hr =>
          cases rus with
          | cons r1 r2 =>
            cases r2
            cases r1 with
            | ref hr2 =>
              obtain ⟨ws, q, rr⟩ := lst_of hm hr e
              obtain ⟨zs, q2, rr2⟩ := lst_of hm hr2 e2
              exact ⟨_, mt_extend, _, _, ws, zs, rfl, rfl, q, q2, by rw [← rr.length, ← rr2.length]; exact lim_le (by assumption), h.ok (putL hm hr e (rr.append rr2)) .non⟩
      · exact h.elim
    · exact h.elim
  · exact h.elim
theorem RepVs.dropLast {K : PySem.W.Frag} {H : Hp} {ρ : List Addr} {us : List U} {vs : List V} (r : RepVs K H ρ us vs) : RepVs K H ρ us.dropLast vs.dropLast := by
  rw [List.dropLast_eq_take, List.dropLast_eq_take, r.length]
  exact r.take _
def gPop (u : U) (us : List U) (μ : Mem) : Res U := match u, us with
  | .ref i, [] => match μ[i]? with
    | some (.lst xs) => match xs[xs.length - 1]? with
      | some w => .ok w (μ.set i (.lst xs.dropLast))
      | none => .bad
    | _ => .bad
  | _, _ => .bad
theorem gs_pop : MtS X W "list.pop" gPop := by
  intro ρ μ σ H u us x vs Q hm ru rus h
  unfold gPop at h
  split at h
  · split at h
    · rename_i xs e
      split at h
      · rename_i w e2
        cases ru with
        | ref hr =>
          cases rus
          obtain ⟨ws, q, rr⟩ := lst_of hm hr e
          obtain ⟨z, q2, r2⟩ := rr.get e2
          have t := putL hm hr e rr.dropLast
          exact ⟨_, mt_pop, _, ws, z, rfl, rfl, q, by rw [← rr.length]; exact q2, h.ok t (t.v r2)⟩
      · exact h.elim
    · exact h.elim
  · exact h.elim
theorem RepVs.eraseIdx {K : PySem.W.Frag} {H : Hp} {ρ : List Addr} : ∀ {us : List U} {vs : List V} (n : Nat), RepVs K H ρ us vs → RepVs K H ρ (us.eraseIdx n) (vs.eraseIdx n)
  | _, _, _, .nil => .nil
  | _, _, 0, .cons _ r => r
  | _, _, n + 1, .cons h r => .cons h (RepVs.eraseIdx n r)
def gPopAt (u : U) (us : List U) (μ : Mem) : Res U := match u, us with
  | .ref i, [.int n] => match μ[i]? with
    | some (.lst xs) => if -(2 ^ 63) ≤ n ∧ n < 2 ^ 63 then match seqIndex? n xs.length with
      | some j => match xs[j]? with
        | some w => .ok w (μ.set i (.lst (xs.eraseIdx j)))
        | none => .bad
      | none => .bad
      else .bad
    | _ => .bad
  | _, _ => .bad
theorem gs_popAt : MtS X W "list.pop" gPopAt := by
  intro ρ μ σ H u us x vs Q hm ru rus h
  unfold gPopAt at h
  split at h
  · split at h
    · rename_i xs e
      split at h
      · rename_i hz
        split at h
        · rename_i j ej
          split at h
          · rename_i w e2
            cases ru with
            | ref hr =>
              cases rus with
              | cons r1 r0 =>
                cases r0
                cases r1
                obtain ⟨ws, q, rr⟩ := lst_of hm hr e
                obtain ⟨z, q2, r2⟩ := rr.get e2
                have t := putL hm hr e (rr.eraseIdx j)
                exact ⟨_, mt_popAt, _, ws, _, j, z, rfl, rfl, q, hz.1, hz.2, by rw [← rr.length]; exact ej, q2, h.ok t (t.v r2)⟩
          · exact h.elim
        · exact h.elim
      · exact h.elim
    · exact h.elim
  · exact h.elim
end
end Dg
/-! Dg5: statements, loops, comprehensions, calls of defs, a def by its body. -/
namespace Dg
open PySem PySem.Spec PyProof.Rows L2 RZ

/-! ### what is wanted behind a statement -/
def PostS (X : Cx) (W : WX) (ρ : List Addr) (H : Hp) (o : Out) (D : Ends) : Prop := match o with
  | .nx s' μ' => ∀ σ' H' ρ', Stp X.K ρ H ρ' H' μ' → RepS X.K H' ρ' s' σ' → D.nx σ' H'
  | .rt u μ' => ∀ v H' ρ', Stp X.K ρ H ρ' H' μ' → RepV X.K H' ρ' u v → D.rt v H'
  | .bk s' μ' => ∀ σ' H' ρ', Stp X.K ρ H ρ' H' μ' → RepS X.K H' ρ' s' σ' → D.bk σ' H'
  | .ct s' μ' => ∀ σ' H' ρ', Stp X.K ρ H ρ' H' μ' → RepS X.K H' ρ' s' σ' → D.ct σ' H'
  | .ex c s' μ' => ∀ cls σ' H' ρ', Stp X.K ρ H ρ' H' μ' → RepS X.K H' ρ' s' σ' → X.mg c = some cls → W cls none σ' H'
  | .bad => False
def ofR {α : Type} (r : Res α) (s : Slots) (k : α → Mem → Out) : Out := match r with
  | .ok a μ => k a μ
  | .ex c μ => .ex c s μ
  | .bad => .bad
theorem PostS.from {X : Cx} {W : WX} {ρ ρ1 : List Addr} {H H1 : Hp} {μ1 : Mem} {o : Out} {D : Ends} (t : Stp X.K ρ H ρ1 H1 μ1) (h : PostS X W ρ H o D) : PostS X W ρ1 H1 o D := by
  cases o with
  | nx s m => exact fun σ' H' ρ' t' r => h σ' H' ρ' (t.trans t') r
  | rt u m => exact fun σ' H' ρ' t' r => h σ' H' ρ' (t.trans t') r
  | bk s m => exact fun σ' H' ρ' t' r => h σ' H' ρ' (t.trans t') r
  | ct s m => exact fun σ' H' ρ' t' r => h σ' H' ρ' (t.trans t') r
  | ex c s m => exact fun cls σ' H' ρ' t' r e => h cls σ' H' ρ' (t.trans t') r e
  | bad => exact h
theorem PostS.bind {α β : Type} {X : Cx} {W : WX} {σ : L2.St} {rel : RelT α β} {ρ : List Addr} {H : Hp} {r : Res α} {s : Slots} {k : α → Mem → Out} {D : Ends} {Q1 : β → Hp → Prop} (hs : RepS X.K H ρ s σ)
    (h : PostS X W ρ H (ofR r s k) D) (hk : ∀ a μ1 x H1 ρ1, Stp X.K ρ H ρ1 H1 μ1 → rel X.K H1 ρ1 a x → PostS X W ρ1 H1 (k a μ1) D → Q1 x H1) : Post X W σ rel ρ H r Q1 := by
  cases r with
  | ok a m =>
    intro v H' ρ' t q
    exact hk a m v H' ρ' t q (PostS.from t h)
  | ex c m => exact fun cls H' ρ' t e => h cls σ H' ρ' t (t.s hs) e
  | bad => exact h
/-- the same out, other ends behind -/
theorem PostS.ends {X : Cx} {W : WX} {ρ : List Addr} {H : Hp} {o : Out} {D D' : Ends} (h : PostS X W ρ H o D) (n : ∀ s m, o = .nx s m → PostS X W ρ H o D') (r : D'.rt = D.rt) (b : ∀ s m, o = .bk s m → PostS X W ρ H o D') (c : ∀ s m, o = .ct s m → PostS X W ρ H o D') : PostS X W ρ H o D' := by
  cases o with
  | nx s m => exact n s m rfl
  | rt u m => exact fun v H' ρ' t' q => by rw [r]; exact h v H' ρ' t' q
  | bk s m => exact b s m rfl
  | ct s m => exact c s m rfl
  | ex c s m => exact h
  | bad => exact h

def WS (X : Cx) (st : Stmt) : TS := fun D σ H => ∃ t, PS X st t ∧ t D σ H
theorem ps_w {X : Cx} {st : Stmt} : PS X st (WS X st) := ⟨fun pins s σ H D I ⟨_, h, q⟩ => h.run pins s σ H D I q⟩
def WSs (X : Cx) (st : List Stmt) : TS := fun D σ H => ∃ t, PSs X st t ∧ t D σ H
theorem pss_w {X : Cx} {st : List Stmt} : PSs X st (WSs X st) := ⟨fun pins s σ H D I ⟨_, h, q⟩ => h.run pins s σ H D I q⟩
def CS (X : Cx) (W : WX) (st : Stmt) (m : FS) : Prop := ∀ ρ μ s σ H D, RepS X.K H ρ s σ → RepM X.K H ρ μ → PostS X W ρ H (m s μ) D → WS X st D σ H
def CSs (X : Cx) (W : WX) (st : List Stmt) (m : FS) : Prop := ∀ ρ μ s σ H D, RepS X.K H ρ s σ → RepM X.K H ρ μ → PostS X W ρ H (m s μ) D → WSs X st D σ H

section
variable {X : Cx} {W : WX} {k : Nat}
def sNext : FS := fun s μ => .nx s μ
def sSeq (a b : FS) : FS := fun s μ => match a s μ with
  | .nx s1 μ1 => b s1 μ1
  | o => o
theorem css_nil : CSs X W [] sNext := fun ρ μ s σ H D hs hm h => ⟨_, pss_nil, h σ H ρ (Stp.refl hm) hs⟩
theorem css_cons {st : Stmt} {rest : List Stmt} {a b : FS} (ha : CS X W st a) (hb : CSs X W rest b) : CSs X W (st :: rest) (sSeq a b) := by
  intro ρ μ s σ H D hs hm h
  refine ⟨_, pss_cons ps_w pss_w, ?_⟩
  refine ha ρ μ s σ H _ hs hm ?_
  unfold sSeq at h
  cases e : a s μ with
  | nx s1 μ1 =>
    rw [e] at h
    intro σ' H' ρ' t r
    exact hb ρ' μ1 s1 σ' H' D r t.mem (PostS.from t h)
  | rt u m => rw [e] at h; exact h
  | bk u m => rw [e] at h; exact h
  | ct u m => rw [e] at h; exact h
  | ex c u m => rw [e] at h; exact h
  | bad => rw [e] at h; exact h
theorem css_one {st : Stmt} {a : FS} (ha : CS X W st a) : CSs X W [st] a := fun ρ μ s σ H D hs hm h => ⟨_, pss_one ps_w, ha ρ μ s σ H D hs hm h⟩
theorem cs_pass {pos : Pos} : CS X W (.Pass pos) sNext := fun ρ μ s σ H D hs hm h => ⟨_, ps_pass, h σ H ρ (Stp.refl hm) hs⟩
def sBrk : FS := fun s μ => .bk s μ
def sCnt : FS := fun s μ => .ct s μ
theorem cs_brk {pos : Pos} : CS X W (.Break pos) sBrk := fun ρ μ s σ H D hs hm h => ⟨_, ps_break, h σ H ρ (Stp.refl hm) hs⟩
theorem cs_cnt {pos : Pos} : CS X W (.Continue pos) sCnt := fun ρ μ s σ H D hs hm h => ⟨_, ps_continue, h σ H ρ (Stp.refl hm) hs⟩
def sExpr (a : FE) : FS := fun s μ => ofR (a s μ) s fun _ μ1 => .nx s μ1
theorem cs_expr {e : Expr} {me : FE} {pos : Pos} (he : CE X W e me) (hs0 : swapsWith e none pos.line X.env = pure false := by rfl) : CS X W (.Expr e pos) (sExpr me) := by
  intro ρ μ s σ H D hs hm h
  refine ⟨_, ps_expr pe_w hs0, ?_⟩
  exact he ρ μ s σ H _ hs hm (PostS.bind hs h fun u μ1 x H1 ρ1 t1 r1 h1 => h1 σ H1 ρ1 (Stp.refl t1.mem) (t1.s hs))
def sRet (a : FE) : FS := fun s μ => ofR (a s μ) s fun u μ1 => .rt u μ1
theorem cs_ret {e : Expr} {me : FE} {pos : Pos} (he : CE X W e me) : CS X W (.Return (some e) pos) (sRet me) := by
  intro ρ μ s σ H D hs hm h
  refine ⟨_, ps_ret pe_w, ?_⟩
  exact he ρ μ s σ H _ hs hm (PostS.bind hs h fun u μ1 x H1 ρ1 t1 r1 h1 => h1 x H1 ρ1 (Stp.refl t1.mem) r1)
def sRetN : FS := fun _ μ => .rt .non μ
theorem cs_retN {pos : Pos} : CS X W (.Return none pos) sRetN := fun ρ μ s σ H D hs hm h => ⟨_, ps_retN, h _ H ρ (Stp.refl hm) .non⟩
def sIf (t : FT) (a b : FS) : FS := fun s μ => ofR (t s μ) s fun c μ1 => match c with
  | true => a s μ1
  | false => b s μ1
theorem cs_if {c : Expr} {p q : List Stmt} {tc : FT} {a b : FS} {pos : Pos} (hc : CT X W c tc) (ha : CSs X W p a) (hb : CSs X W q b) : CS X W (.If c p q pos) (sIf tc a b) := by
  intro ρ μ s σ H D hs hm h
  refine ⟨_, ps_if pt_w pss_w pss_w, ?_⟩
  refine hc ρ μ s σ H _ hs hm (PostS.bind hs h fun b μ1 x H1 ρ1 t1 r1 h1 => ?_)
  cases r1
  cases b with
  | true => exact iteT (ha ρ1 μ1 s σ H1 D (t1.s hs) t1.mem h1)
  | false => exact iteF (hb ρ1 μ1 s σ H1 D (t1.s hs) t1.mem h1)

/-! ### targets -/
inductive Tgt where
  | one (i : Nat)
  | tup (is : List Nat)
def setAll : List Nat → List U → Slots → Slots
  | i :: is, u :: us, s => setAll is us (s.set i (some u))
  | _, _, s => s
def setT (g : Tgt) (u : U) (s : Slots) : Option Slots := match g, u with
  | .one i, u => some (s.set i (some u))
  | .tup is, .tup us => if us.length = is.length then some (setAll is us s) else none
  | _, _ => none
def WG (X : Cx) (tg : Expr) : TG := fun v σ H Q => ∃ t, PG X tg t ∧ t v σ H Q
theorem pg_w {tg : Expr} : PG X tg (WG X tg) := ⟨fun pins s σ H v u Q I r ⟨_, h, q⟩ => h.run pins s σ H v u Q I r q⟩
def inT (g : Tgt) (vs : List Nat) : Prop := match g with
  | .one i => i ∈ vs
  | .tup is => ∀ i ∈ is, i ∈ vs
/-- what is stored lies as the mirror's slots; only the slots of the target change -/
def CG (X : Cx) (tg : Expr) (g : Tgt) : Prop := ∀ ρ s σ H u v s' (Q : L2.St → Hp → Prop), RepS X.K H ρ s σ → RepV X.K H ρ u v → setT g u s = some s' →
  (∀ σ', RepS X.K H ρ s' σ' → (∀ vs : List Nat, inT g vs → wipe σ' vs = wipe σ vs) → Q σ' H) → WG X tg v σ H Q
theorem wipe_set {σ : L2.St} {i : Nat} {x : Option V} : ∀ {vs : List Nat}, i ∈ vs → wipe (σ.set i x) vs = wipe σ vs
  | v :: vs, h => by
    show (wipe (σ.set i x) vs).set v none = (wipe σ vs).set v none
    by_cases e : v = i
    · subst e
      by_cases hv : v ∈ vs
      · rw [wipe_set hv]
      · have key : ∀ (ws : List Nat), v ∉ ws → wipe (σ.set v x) ws = (wipe σ ws).set v x := by
          intro ws
          induction ws with
          | nil => intro _; rfl
          | cons w ws ih =>
            intro hw
            simp only [List.mem_cons, not_or] at hw
            show (wipe (σ.set v x) ws).set w none = ((wipe σ ws).set w none).set v x
            rw [ih hw.2]
            exact List.set_comm _ _ hw.1
        rw [key vs hv, List.set_set]
    · have hv : i ∈ vs := by
        rcases List.mem_cons.mp h with q | q
        · exact absurd q.symm e
        · exact q
      rw [wipe_set hv]
theorem wipe_wipe {σ : L2.St} : ∀ {vs ws : List Nat}, (∀ i ∈ ws, i ∈ vs) → wipe (wipe σ ws) vs = wipe σ vs
  | vs, [], _ => rfl
  | vs, w :: ws, h => by
    show wipe ((wipe σ ws).set w none) vs = wipe σ vs
    rw [wipe_set (h w (by simp)), wipe_wipe (ws := ws) fun i hi => h i (by simp [hi])]
theorem cg_one {i : Nat} {x : Str} {pos : Pos} (hN : X.N.Nodup) (hi : X.N[i]? = some x) (hx : Loc X.env.scope x) (hf : X.fn x = true ∨ X.env.scope.names.lookup x = some .local := by first | exact .inl rfl | exact .inr rfl | assumption) : CG X (.Name x pos) (.one i) := by
  intro ρ s σ H u v s' Q hs r e h
  refine ⟨_, pg_name hN hi hx hf, ?_⟩
  cases e
  exact h _ (hs.set r) fun vs hv => wipe_set hv
/-- several names -/
def WGs (X : Cx) (ts : List Expr) : TGs := fun vs σ H Q => ∃ t, PGs X ts t ∧ t vs σ H Q
theorem pgs_w {ts : List Expr} : PGs X ts (WGs X ts) := ⟨fun pins s σ H vs us Q I r ⟨_, h, q⟩ => h.run pins s σ H vs us Q I r q⟩
def CGs (X : Cx) (ts : List Expr) (is : List Nat) : Prop := ∀ ρ s σ H us vs (Q : L2.St → Hp → Prop), RepS X.K H ρ s σ → RepVs X.K H ρ us vs → us.length = is.length →
  (∀ σ', RepS X.K H ρ (setAll is us s) σ' → (∀ ws : List Nat, (∀ i ∈ is, i ∈ ws) → wipe σ' ws = wipe σ ws) → Q σ' H) → WGs X ts vs σ H Q
theorem cgs_nil : CGs X [] [] := by
  intro ρ s σ H us vs Q hs r hl h
  refine ⟨_, pgs_nil, ?_⟩
  cases r with
  | nil => exact ⟨rfl, h σ hs fun _ _ => rfl⟩
  | cons _ _ => simp at hl
theorem cgs_cons {e : Expr} {es : List Expr} {i : Nat} {is : List Nat} (h1 : CG X e (.one i)) (h2 : CGs X es is) (hs0 : (assignEach (e :: es) X.env).map (·.2) = assign e X.env :: (assignEach es X.env).map (·.2) := by rfl) : CGs X (e :: es) (i :: is) := by
  intro ρ s σ H us vs Q hs r hl h
  refine ⟨_, pgs_cons pg_w pgs_w hs0, ?_⟩
  cases r with
  | nil => simp at hl
  | cons r1 r2 =>
    refine ⟨_, _, rfl, ?_⟩
    refine h1 ρ s σ H _ _ _ _ hs r1 rfl fun σ' hs' hw => ?_
    refine h2 ρ _ σ' H _ _ Q hs' r2 (by simpa using hl) fun σ2 hs2 hw2 => ?_
    exact h σ2 hs2 fun ws hws => (hw2 ws fun j hj => hws j (by simp [hj])).trans (hw ws (hws i (by simp)))
theorem cg_tup {es : List Expr} {is : List Nat} {j : Nat} {pos : Pos} (hc : X.calm = true) (h : CGs X es is) (hn : (assignEach es X.env).length = is.length := by rfl) (hst : (assignEach es X.env).findIdx? (·.1) = none := by rfl) : CG X (.Tuple es j pos) (.tup is) := by
  intro ρ s σ H u v s' Q hs r e q
  refine ⟨_, pg_tup hc pgs_w hn hst, ?_⟩
  cases r with
  | tup hs1 hr1 =>
    simp only [setT] at e
    split at e
    · rename_i hl
      cases e
      exact ⟨_, _, rfl, hs1, by rw [← hr1.length]; exact hl, h ρ s σ H _ _ Q hs hr1 hl fun σ' hs' hw => q σ' hs' hw⟩
    · cases e
  | _ => simp [setT] at e
/-- x = e; a, b = e -/
def sAsg (g : Tgt) (a : FE) : FS := fun s μ => ofR (a s μ) s fun u μ1 => match setT g u s with
  | some s1 => .nx s1 μ1
  | none => .bad
theorem cs_asg {tg e : Expr} {g : Tgt} {me : FE} {pos : Pos} (he : CE X W e me) (hg : CG X tg g) (hp : ∀ {te : TE} {gt : TG}, PE X e te → PG X tg gt → PS X (.Assign [tg] e pos) (tAsg te gt)) : CS X W (.Assign [tg] e pos) (sAsg g me) := by
  intro ρ μ s σ H D hs hm h
  refine ⟨_, hp pe_w pg_w, ?_⟩
  refine he ρ μ s σ H _ hs hm (PostS.bind hs h fun u μ1 x H1 ρ1 t1 r1 h1 => ?_)
  cases es : setT g u s with
  | none => rw [es] at h1; exact h1.elim
  | some s1 =>
    rw [es] at h1
    exact hg ρ1 s σ H1 u x s1 _ (t1.s hs) r1 es fun σ' hs' _ => h1 σ' H1 ρ1 (Stp.refl t1.mem) hs'
theorem cs_set {i : Nat} {x : Str} {e : Expr} {me : FE} {pos pos' : Pos} (hN : X.N.Nodup) (hi : X.N[i]? = some x) (hx : Loc X.env.scope x) (he : CE X W e me) (hs0 : swapsWith e (some (.Name x pos')) pos.line X.env = pure false := by rfl)
    (hf : X.fn x = true ∨ X.env.scope.names.lookup x = some .local := by first | exact .inl rfl | exact .inr rfl | assumption) : CS X W (.Assign [.Name x pos'] e pos) (sAsg (.one i) me) := by
  intro ρ μ s σ H D hs hm h
  refine ⟨_, ps_set hN hi hx pe_w hs0 hf, ?_⟩
  exact he ρ μ s σ H _ hs hm (PostS.bind hs h fun u μ1 x H1 ρ1 t1 r1 h1 => h1 _ H1 ρ1 (Stp.refl t1.mem) ((t1.s hs).set r1))
/-- a, b = e1, e2 -/
def sPar (i j : Nat) (a b : FE) : FS := fun s μ => ofR (a s μ) s fun u μ1 => ofR (b s μ1) s fun w μ2 => .nx ((s.set i (some u)).set j (some w)) μ2

/-! ### o[i] = e, d[k] = e -/
def stU (o i u : U) (μ : Mem) : Option Mem := match o with
  | .ref r => match μ[r]? with
    | some (.lst xs) => match i with
      | .int n => match ixN xs.length n with
        | some j => some (μ.set r (.lst (xs.set j u)))
        | none => none
      | _ => none
    | some (.dct kus) => match keyU i with
      | some k => if kus.length < lim then some (μ.set r (.dct (putU kus k u))) else none
      | none => none
    | _ => none
  | _ => none
def sStore (o i a : FE) : FS := fun s μ => ofR (a s μ) s fun u μ1 => ofR (o s μ1) s fun x μ2 => ofR (i s μ2) s fun y μ3 => match stU x y u μ3 with
  | some μ4 => .nx s μ4
  | none => .bad
theorem cs_store {o i e : Expr} {mo mi me : FE} {pos pos' : Pos} (G : Good X W (k + 40)) (ho : CE X W o mo) (hi : CE X W i mi) (he : CE X W e me)
    (h1 : ∀ {to ti te : TE}, PE X o to → PE X i ti → PE X e te → PS X (.Assign [.Subscript o i pos'] e pos) (tAsg te (gSub to ti rSetL)))
    (h2 : ∀ {to ti te : TE}, PE X o to → PE X i ti → PE X e te → PS X (.Assign [.Subscript o i pos'] e pos) (sDPut to ti te)) : CS X W (.Assign [.Subscript o i pos'] e pos) (sStore mo mi me) := by
  intro ρ μ s σ H D hs hm h
  by_cases hd : ∃ u μ1 x μ2 y μ3 kus, me s μ = .ok u μ1 ∧ mo s μ1 = .ok x μ2 ∧ mi s μ2 = .ok y μ3 ∧ dctU μ3 x = some kus
  · obtain ⟨u, μ1, x, μ2, y, μ3, kus, e1, e2, e3, e4⟩ := hd
    refine ⟨_, h2 pe_w pe_w pe_w, ?_⟩
    unfold sStore at h
    rw [e1] at h
    refine he ρ μ s σ H _ hs hm ?_
    rw [e1]
    intro uv H1 ρ1 t1 r1
    refine ho ρ1 μ1 s σ H1 _ (t1.s hs) t1.mem ?_
    have g1 : PostS X W ρ H (ofR (mo s μ1) s fun x μ2 => ofR (mi s μ2) s fun y μ3 => match stU x y u μ3 with
      | some μ4 => .nx s μ4
      | none => .bad) D := h
    rw [e2] at g1 ⊢
    intro xv H2 ρ2 t2 r2
    refine hi ρ2 μ2 s σ H2 _ (t2.s (t1.s hs)) t2.mem ?_
    have g2 : PostS X W ρ H (ofR (mi s μ2) s fun y μ3 => match stU x y u μ3 with
      | some μ4 => .nx s μ4
      | none => .bad) D := g1
    rw [e3] at g2 ⊢
    intro yv H3 ρ3 t3 r3
    have g3 : PostS X W ρ H (match stU x y u μ3 with
      | some μ4 => .nx s μ4
      | none => .bad) D := g2
    have g4 := PostS.from ((t1.trans t2).trans t3) g3
    cases es : stU x y u μ3 with
    | none => rw [es] at g4; exact g4.elim
    | some μ4 =>
      rw [es] at g4
      have r2' := t3.v r2
      obtain ⟨a, kvs, rfl, q1, rk⟩ := dct_at t3.mem r2' e4
      cases r2' with
      | ref hr =>
        rename_i r
        have em : μ3[r]? = some (.dct kus) := by
          unfold dctU at e4
          simp only at e4
          split at e4
          all_goals first
            | (cases e4; assumption)
            | (cases e4; done)
        simp only [stU, em] at es
        cases ek : keyU y with
        | none => rw [ek] at es; cases es
        | some k =>
          rw [ek] at es
          simp only at es
          split at es
          · rename_i hz
            cases es
            have ru := (t3.v (t2.v r1))
            refine ⟨a, _, rfl, ?_, g4 σ _ ρ3 (putD t3.mem hr em (rk.put ru)) ?_⟩
            · rw [keyU_ok r3 ek]
              exact DPut.k q1 (by rw [rk.length]; exact lim_lt hz)
            · exact (putD t3.mem hr em (rk.put ru)).s (t3.s (t2.s (t1.s hs)))
          · cases es
      | tup _ _ => simp [dctU] at e4
      | frl _ _ => simp [dctU] at e4
  · refine ⟨_, h1 pe_w pe_w pe_w, ?_⟩
    unfold sStore at h
    refine he ρ μ s σ H _ hs hm ?_
    cases e1 : me s μ with
    | ex c m => rw [e1] at h; exact fun cls H' ρ' t e => h cls σ H' ρ' t (t.s hs) e
    | bad => rw [e1] at h; exact h
    | ok u μ1 =>
      rw [e1] at h
      intro uv H1 ρ1 t1 r1
      refine ho ρ1 μ1 s σ H1 _ (t1.s hs) t1.mem ?_
      have g1 : PostS X W ρ1 H1 (ofR (mo s μ1) s fun x μ2 => ofR (mi s μ2) s fun y μ3 => match stU x y u μ3 with
        | some μ4 => .nx s μ4
        | none => .bad) D := PostS.from t1 h
      cases e2 : mo s μ1 with
      | ex c m => rw [e2] at g1; exact fun cls H' ρ' t e => g1 cls σ H' ρ' t (t.s (t1.s hs)) e
      | bad => rw [e2] at g1; exact g1
      | ok x μ2 =>
        rw [e2] at g1
        intro xv H2 ρ2 t2 r2
        refine hi ρ2 μ2 s σ H2 _ (t2.s (t1.s hs)) t2.mem ?_
        have g2 : PostS X W ρ2 H2 (ofR (mi s μ2) s fun y μ3 => match stU x y u μ3 with
          | some μ4 => .nx s μ4
          | none => .bad) D := PostS.from t2 g1
        cases e3 : mi s μ2 with
        | ex c m => rw [e3] at g2; exact fun cls H' ρ' t e => g2 cls σ H' ρ' t (t.s (t2.s (t1.s hs))) e
        | bad => rw [e3] at g2; exact g2
        | ok y μ3 =>
          rw [e3] at g2
          intro yv H3 ρ3 t3 r3
          have g4 : PostS X W ρ3 H3 (match stU x y u μ3 with
            | some μ4 => .nx s μ4
            | none => .bad) D := PostS.from t3 g2
          cases es : stU x y u μ3 with
          | none => rw [es] at g4; exact g4.elim
          | some μ4 =>
            rw [es] at g4
            have r2' := t3.v r2
            unfold stU at es
            split at es
            · rename_i r
              split at es
              · rename_i xs em
                split at es
                · rename_i n
                  split at es
                  · rename_i j ej
                    cases es
                    cases r2' with
                    | ref hr =>
                      cases r3
                      obtain ⟨ws, q, rr⟩ := lst_of t3.mem hr em
                      have t4 := putL t3.mem hr em (rr.set (t3.v (t2.v r1)) j)
                      exact ⟨_, ws, n, j, rfl, rfl, q, by rw [← rr.length]; exact ej, g4 σ _ ρ3 t4 (t4.s (t3.s (t2.s (t1.s hs))))⟩
                  · cases es
                · cases es
              · rename_i kus em
                exact absurd ⟨u, μ1, .ref r, μ2, y, μ3, kus, e1, e2, e3, by simp only [dctU, em]⟩ hd
              · cases es
            · cases es

/-! ### x += e -/
def sAug (i : Nat) (f : Int → Int → Int) (a : FE) : FS := fun s μ => match s[i]? with
  | some (some (.int x)) => ofR (a s μ) s fun u μ1 => match u with
    | .int y => .nx (s.set i (some (.int (f x y)))) μ1
    | _ => .bad
  | _ => .bad
theorem cs_aug {i : Nat} {x : Str} {e : Expr} {me : FE} {op : Operator} {f : Int → Int → Int} {pos pos' : Pos} (hN : X.N.Nodup) (hi : X.N[i]? = some x) (hx : Loc X.env.scope x) (he : CE X W e me) (ho : PIp X op (ipI f))
    (hf : X.fn x = true ∨ X.env.scope.names.lookup x = some .local := by first | exact .inl rfl | exact .inr rfl | assumption)
    (hp : ∀ {te : TE}, PE X e te → PS X (.AugAssign (.Name x pos') op e pos) (L2.tAug i te (ipI f))) : CS X W (.AugAssign (.Name x pos') op e pos) (sAug i f me) := by
  intro ρ μ s σ H D hs hm h
  refine ⟨_, hp pe_w, ?_⟩
  unfold sAug at h
  split at h
  · rename_i z e1
    obtain ⟨v, q, r⟩ := hs.get i _ e1
    cases r
    refine ⟨_, q, ?_⟩
    refine he ρ μ s σ H _ hs hm (PostS.bind hs h fun u μ1 x H1 ρ1 t1 r1 h1 => ?_)
    split at h1
    · cases r1
      exact ⟨_, _, rfl, rfl, h1 _ H1 ρ1 (Stp.refl t1.mem) ((t1.s hs).set .int)⟩
    · exact h1.elim
  · exact h.elim

/-! ### while -/
def sWhile (t : FT) (b : FS) : Nat → FS
  | 0 => fun _ _ => .bad
  | n + 1 => fun s μ => ofR (t s μ) s fun c μ1 => match c with
    | false => .nx s μ1
    | true => match b s μ1 with
      | .nx s2 μ2 => sWhile t b n s2 μ2
      | .ct s2 μ2 => sWhile t b n s2 μ2
      | .bk s2 μ2 => .nx s2 μ2
      | o => o
theorem cs_while {c : Expr} {body : List Stmt} {tc : FT} {b : FS} {pos : Pos} (n : Nat) (G : Good X W k) (hc : CT X W c tc) (hb : CSs X W body b) : CS X W (.While c body [] pos) (sWhile tc b n) := by
  intro ρ μ s σ H D hs hm h
  refine ⟨_, ps_while G.po pt_w pss_w, ?_⟩
  refine ⟨fun m σ' H' => ∃ ρ' s' μ', RepM X.K H' ρ' μ' ∧ RepS X.K H' ρ' s' σ' ∧ PostS X W ρ' H' (sWhile tc b m s' μ') D, ⟨n, ρ, s, μ, hm, hs, h⟩, ?_⟩
  intro m σ' H' ⟨ρ', s', μ', hm', hs', h'⟩
  cases m with
  | zero => exact h'.elim
  | succ m =>
    refine hc ρ' μ' s' σ' H' _ hs' hm' (PostS.bind hs' h' fun b0 μ1 x H1 ρ1 t1 r1 h1 => ?_)
    cases r1
    cases b0 with
    | false => exact iteF (h1 σ' H1 ρ1 (Stp.refl t1.mem) (t1.s hs'))
    | true =>
      refine iteT ⟨fun σ2 H2 => ∃ ρ2 s2 μ2, RepM X.K H2 ρ2 μ2 ∧ RepS X.K H2 ρ2 s2 σ2 ∧ PostS X W ρ2 H2 (sWhile tc b m s2 μ2) D, fun σ2 H2 q => ⟨m, Nat.lt_succ_self m, q⟩, ?_⟩
      refine hb ρ1 μ1 s' σ' H1 _ (t1.s hs') t1.mem ?_
      cases e : b s' μ1 with
      | nx s2 μ2 =>
        simp only [e] at h1
        exact fun σ2 H2 ρ2 t r => ⟨ρ2, s2, μ2, t.mem, r, PostS.from t h1⟩
      | ct s2 μ2 =>
        simp only [e] at h1
        exact fun σ2 H2 ρ2 t r => ⟨ρ2, s2, μ2, t.mem, r, PostS.from t h1⟩
      | bk s2 μ2 => simp only [e] at h1; exact h1
      | rt u m2 => simp only [e] at h1; exact h1
      | ex c2 u m2 => simp only [e] at h1; exact h1
      | bad => simp only [e] at h1; exact h1.elim

/-! ### what is walked -/
inductive IterU where
  | seq (us : List U)
  | rng (lo c : Int) (n : Nat)
  | live (r : Nat)
  | zipL (a b : Nat)
  /-- the list at r from its item n - 1 down -/
  | rev (r n : Nat)
  /-- a tuple beside the list at r -/
  | zipM (us : List U) (r : Nat)
  /-- the list at r beside a tuple -/
  | zipQ (r : Nat) (us : List U)
  /-- the list at r with the places -/
  | enum (r : Nat)
def listAt (μ : Mem) (r : Nat) : Option (List U) := match μ[r]? with
  | some (.lst us) => some us
  | _ => none
def itemAt (it : IterU) (i : Nat) (μ : Mem) : Option (Option U) := match it with
  | .seq us => some us[i]?
  | .rng lo c n => some (if i < n then some (.int (lo + (i : Int) * c)) else none)
  | .live r => (listAt μ r).map fun us => us[i]?
  | .zipL a b => match listAt μ a, listAt μ b with
    | some us, some ws => some (match us[i]?, ws[i]? with
      | some u, some w => some (.tup [u, w])
      | _, _ => none)
    | _, _ => none
  | .rev r n => (listAt μ r).bind fun us => if i < n then us[n - 1 - i]?.map some else some none
  | .zipM us r => match listAt μ r with
    | some ws => some (match us[i]?, ws[i]? with
      | some u, some w => some (.tup [u, w])
      | _, _ => none)
    | none => none
  | .zipQ r us => match listAt μ r with
    | some ws => some (match ws[i]?, us[i]? with
      | some w, some u => some (.tup [w, u])
      | _, _ => none)
    | none => none
  | .enum r => (listAt μ r).map fun us => us[i]?.map fun u => .tup [.int (i : Nat), u]
def ItOk (K : PySem.W.Frag) (ρ : List Addr) (H : Hp) (it : IterU) (J : It) : Prop := ∀ i ρ' H' μ', Ext ρ ρ' → TX H H' → RepM K H' ρ' μ' → match itemAt it i μ' with
  | none => True
  | some none => J.stop i H'
  | some (some u) => J.go i H' ∧ ∀ x H'', J.yld i H' x H'' → Stp K ρ' H' ρ' H'' μ' ∧ RepV K H'' ρ' u x
def relI : RelT IterU It := fun K H ρ it J => ItOk K ρ H it J
abbrev FI := Slots → Mem → Res IterU
def WI (X : Cx) (tg iter : Expr) : TI := fun σ H R => ∃ wi, PI X tg iter wi ∧ wi σ H R
theorem pi_w {tg iter : Expr} : PI X tg iter (WI X tg iter) := ⟨fun pins s σ H R I ⟨_, h, q⟩ => h.run pins s σ H R I q⟩
def CI (X : Cx) (W : WX) (tg iter : Expr) (m : FI) : Prop := ∀ ρ μ s σ H R, RepS X.K H ρ s σ → RepM X.K H ρ μ → Post X W σ relI ρ H (m s μ) R → WI X tg iter σ H R
theorem listAt_ok {K : PySem.W.Frag} {H : Hp} {ρ : List Addr} {μ : Mem} (hm : RepM K H ρ μ) {r : Nat} {a : Addr} {us : List U} (hr : ρ[r]? = some a) (e : listAt μ r = some us) : ∃ vs, SqL K H a vs ∧ RepVs K H ρ us vs := by
  obtain ⟨c, hc, rc⟩ := hm.at hr
  simp only [listAt, hc] at e
  cases c with
  | lst us => obtain ⟨vs, q, r⟩ := rc; cases e; exact ⟨vs, .inl (.inl q), r⟩
  | _ => cases e
theorem it_live {K : PySem.W.Frag} {H : Hp} {ρ : List Addr} {r : Nat} {a : Addr} (hr : ρ[r]? = some a) : ItOk K ρ H (.live r) (Itl K a) := by
  intro i ρ' H' μ' ex tx hm
  simp only [itemAt]
  cases e : listAt μ' r with
  | none => trivial
  | some us =>
    obtain ⟨vs, q, rr⟩ := listAt_ok hm (ex.get hr) e
    simp only [Option.map_some]
    cases eu : us[i]? with
    | none =>
      refine ⟨vs, q, ?_⟩
      rw [← rr.length]
      exact List.getElem?_eq_none_iff.mp eu
    | some u =>
      obtain ⟨v, q2, r2⟩ := rr.get eu
      refine ⟨⟨vs, v, q, q2⟩, fun x H'' y => ?_⟩
      obtain ⟨rfl, hx⟩ := y
      have := hx vs q
      rw [q2] at this
      cases this
      exact ⟨Stp.refl hm, r2⟩
theorem it_frl {K : PySem.W.Frag} {H : Hp} {ρ : List Addr} {a : Addr} {us : List U} {vs : List V} (hs : FrL K H a vs) (hr : RepVs K H ρ us vs) : ItOk K ρ H (.seq us) (Itl K a) := by
  intro i ρ' H' μ' ex tx hm
  simp only [itemAt]
  have hs' := (tx.frl hs).sq
  have hr' := hr.mono tx ex
  cases eu : us[i]? with
  | none =>
    refine ⟨vs, hs', ?_⟩
    rw [← hr'.length]
    exact List.getElem?_eq_none_iff.mp eu
  | some u =>
    obtain ⟨v, q2, r2⟩ := hr'.get eu
    refine ⟨⟨vs, v, hs', q2⟩, fun x H'' y => ?_⟩
    obtain ⟨rfl, hx⟩ := y
    have := hx vs hs'
    rw [q2] at this
    cases this
    exact ⟨Stp.refl hm, r2⟩
theorem it_tup {K : PySem.W.Frag} {H : Hp} {ρ : List Addr} {a : Addr} {us : List U} {vs : List V} (hs : SqT K H a vs) (hr : RepVs K H ρ us vs) : ItOk K ρ H (.seq us) (Itt K a) := by
  intro i ρ' H' μ' ex tx hm
  simp only [itemAt]
  have hs' := tx.seq hs
  have hr' := hr.mono tx ex
  cases eu : us[i]? with
  | none =>
    refine ⟨vs, hs', ?_⟩
    rw [← hr'.length]
    exact List.getElem?_eq_none_iff.mp eu
  | some u =>
    obtain ⟨v, q2, r2⟩ := hr'.get eu
    refine ⟨⟨vs, v, hs', q2⟩, fun x H'' y => ?_⟩
    obtain ⟨rfl, hx⟩ := y
    have := hx vs hs'
    rw [q2] at this
    cases this
    exact ⟨Stp.refl hm, r2⟩
theorem it_rng {K : PySem.W.Frag} {H : Hp} {ρ : List Addr} {lo : Int} {n : Nat} : ItOk K ρ H (.rng lo 1 n) (Itr lo n) := by
  intro i ρ' H' μ' ex tx hm
  simp only [itemAt]
  by_cases hi : i < n
  · simp only [hi, if_true]
    refine ⟨hi, fun x H'' y => ?_⟩
    obtain ⟨rfl, rfl⟩ := y
    rw [Int.mul_one]
    exact ⟨Stp.refl hm, .int⟩
  · simp only [hi, if_false]
    show n ≤ i
    omega
theorem it_rngC {K : PySem.W.Frag} {H : Hp} {ρ : List Addr} {lo c : Int} {n : Nat} : ItOk K ρ H (.rng lo c n) (Itc lo c n) := by
  intro i ρ' H' μ' ex tx hm
  simp only [itemAt]
  by_cases hi : i < n
  · simp only [hi, if_true]
    refine ⟨hi, fun x H'' y => ?_⟩
    obtain ⟨rfl, rfl⟩ := y
    exact ⟨Stp.refl hm, .int⟩
  · simp only [hi, if_false]
    show n ≤ i
    omega
/-- a list, a tuple, a text: by value -/
def iAny (K : PySem.W.Frag) (tl : TE) : TI := fun σ H R => tl σ H fun x H1 => (∃ a, x = .ref a ∧ (∃ xs, SqL K H1 a xs) ∧ R (Itl K a) H1) ∨ (∃ a, x = .ref a ∧ (∃ xs, SqT K H1 a xs) ∧ R (Itt K a) H1) ∨ ∃ z, x = .str z ∧ R (Its z) H1
theorem pi_any {tg l : Expr} {tl : TE} (hl : PE X l tl) : PI X tg l (iAny X.K tl) := by
  refine ⟨fun pins s σ H R I h => ?_⟩
  refine thn (hl.run pins s σ H _ I h) fun v s1 ⟨x, H1, I1, r1, q1⟩ => ?_
  rcases q1 with ⟨a, e, ⟨xs, hq⟩, q⟩ | ⟨a, e, ⟨xs, hq⟩, q⟩ | ⟨x, e, q⟩
  · subst e
    cases r1
    obtain ⟨its, rv, p, hz⟩ := I1.list hq
    refine wpAny_pyIter_list p.isList ?_
    refine ⟨s1.heap.objs.size, [s1.heap.objs.size], _, _, H1, rfl, I1.kept (t' := s1.toks) fun b o e => Heap.get?_push_of_some _ e, turn_list a _, ⟨_, Heap.get?_push_size _ rfl, rfl, rfl⟩, fun b hb => ?_, q⟩
    have e : b = s1.heap.objs.size := by simpa using hb
    subst e
    exact I1.fpOk (Nat.le_refl _) (I1.hok.fresh (Nat.le_refl _))
  · subst e
    cases r1
    obtain ⟨its, rv, p, hz⟩ := I1.tuple hq
    refine wpAny_pyIter_tuple (show s1.heap.IsTuple a its.toArray from p) ?_
    refine ⟨s1.heap.objs.size, [s1.heap.objs.size], _, _, H1, rfl, I1.kept (t' := s1.toks) fun b o e => Heap.get?_push_of_some _ e, turn_tuple a _, ⟨_, Heap.get?_push_size _ rfl, rfl, rfl⟩, fun b hb => ?_, q⟩
    have e : b = s1.heap.objs.size := by simpa using hb
    subst e
    exact I1.fpOk (Nat.le_refl _) (I1.hok.fresh (Nat.le_refl _))
  · subst e
    obtain ⟨t, rfl⟩ := r1
    cases ha : x.cps.all (· < 128)
    · exact wpAny_pyIter_wide ha (pi_one (tk := s1.toks) I1 _ (turn_str _ x t "str_iterator" (.inr rfl)) ⟨_, Heap.get?_push_size _ rfl, rfl, rfl⟩ q)
    · exact wpAny_pyIter_ascii ha (pi_one (tk := s1.toks) I1 _ (turn_str _ x t "str_ascii_iterator" (.inl rfl)) ⟨_, Heap.get?_push_size _ rfl, rfl, rfl⟩ q)
def signsU (z : Str) : List U := z.cps.toList.map fun c => .str ⟨#[c]⟩
theorem it_str {K : PySem.W.Frag} {H : Hp} {ρ : List Addr} {z : Str} (hz : PyData.strOk z = true) : ItOk K ρ H (.seq (signsU z)) (Its z) := by
  intro i ρ' H' μ' ex tx hm
  simp only [itemAt, signsU, List.getElem?_map]
  cases eu : z.cps.toList[i]? with
  | none =>
    show z.cps.size ≤ i
    have := List.getElem?_eq_none_iff.mp eu
    simpa using this
  | some c =>
    have hi : i < z.cps.size := by
      have := (List.getElem?_eq_some_iff.mp eu).1
      simpa using this
    refine ⟨hi, fun x H'' y => ?_⟩
    obtain ⟨rfl, c', e1, rfl⟩ := y
    have e2 : z.cps[i]? = some c := by
      rw [← Array.getElem?_toList]; exact eu
    rw [e1] at e2
    cases e2
    refine ⟨Stp.refl hm, .str ?_⟩
    have hc : c ∈ z.cps := Array.mem_toList_iff.mp (List.mem_of_getElem? eu)
    unfold PyData.strOk at *
    rw [Array.all_eq_true'] at *
    intro x hx
    have : x = c := by simpa using hx
    subst this
    exact hz x hc
def iSeq (a : FE) : FI := fun s μ => (a s μ).bind fun u μ1 => match u with
  | .tup us => .ok (.seq us) μ1
  | .frl us => .ok (.seq us) μ1
  | .str z => .ok (.seq (signsU z)) μ1
  | .ref r => match listAt μ1 r with
    | some _ => .ok (.live r) μ1
    | none => .bad
  | _ => .bad
theorem ci_seq {tg e : Expr} {me : FE} (he : CE X W e me) : CI X W tg e (iSeq me) := by
  intro ρ μ s σ H R hs hm h
  unfold iSeq at h
  refine ⟨_, pi_any pe_w, ?_⟩
  refine he ρ μ s σ H _ hs hm (h.bind fun u μ1 x H1 ρ1 t1 r1 h1 => ?_)
  cases r1 with
  | tup hs1 hr1 => exact .inr (.inl ⟨_, rfl, ⟨_, hs1⟩, h1.ok (Stp.refl t1.mem) (it_tup hs1 hr1)⟩)
  | str hz => exact .inr (.inr ⟨_, rfl, h1.ok (Stp.refl t1.mem) (it_str hz)⟩)
  | frl hs1 hr1 => exact .inl ⟨_, rfl, ⟨_, hs1.sq⟩, h1.ok (Stp.refl t1.mem) (it_frl hs1 hr1)⟩
  | ref hr =>
    rename_i r a
    simp only at h1
    cases e : listAt μ1 r with
    | none => rw [e] at h1; exact h1.elim
    | some us =>
      rw [e] at h1
      obtain ⟨vs, q, _⟩ := listAt_ok t1.mem hr e
      exact .inl ⟨a, rfl, ⟨vs, q⟩, h1.ok (Stp.refl t1.mem) (it_live hr)⟩
  | _ => exact h1.elim
def okR (i : Int) : Bool := decide (-(2 ^ 62) ≤ i ∧ i < 2 ^ 62)
def iRg1 (a : FE) : FI := fun s μ => (a s μ).bind fun u μ1 => match u with
  | .int n => if okR n then .ok (.rng 0 1 n.toNat) μ1 else .bad
  | _ => .bad
theorem ci_rg1 {tg a : Expr} {ma : FE} {p pos : Pos} (hg : Gl X "range") (hm0 : X.mg "range" = none) (ha : CE X W a ma) (hs1 : starEach [a] X.env = (false, eval a X.env) :: starEach [] X.env := by rfl) (hs2 : starEach [a] X.env = [(false, eval a X.env)] := by rfl) : CI X W tg (.Call (.Name "range" p) [a] [] pos) (iRg1 ma) := by
  intro ρ μ s σ H R hs hm h
  refine ⟨_, pi_range1 hg hm0 (pa_cons pe_w pa_nil hs1) hs2, ?_⟩
  refine ha ρ μ s σ H _ hs hm (h.bind fun u μ1 x H1 ρ1 t1 r1 h1 => ?_)
  split at h1
  · cases r1
    split at h1
    · rename_i hz
      have hz' := of_decide_eq_true hz
      exact ⟨_, rfl, hz'.1, hz'.2, h1.ok (Stp.refl t1.mem) it_rng⟩
    · exact h1.elim
  · exact h1.elim
def iRg2 (a b : FE) : FI := fun s μ => (a s μ).bind fun u μ1 => (b s μ1).bind fun w μ2 => match u, w with
  | .int i, .int j => if okR i && okR j then .ok (.rng i 1 (j - i).toNat) μ2 else .bad
  | _, _ => .bad
theorem ci_rg2 {tg a b : Expr} {ma mb : FE} {p pos : Pos} (hg : Gl X "range") (hm0 : X.mg "range" = none) (ha : CE X W a ma) (hb : CE X W b mb)
    (hp : ∀ {ta : TA}, PA X [a, b] ta → PI X tg (.Call (.Name "range" p) [a, b] [] pos) (iRng2 ta)) (hs1 : starEach [a, b] X.env = (false, eval a X.env) :: starEach [b] X.env := by rfl) (hs2 : starEach [b] X.env = (false, eval b X.env) :: starEach [] X.env := by rfl) :
    CI X W tg (.Call (.Name "range" p) [a, b] [] pos) (iRg2 ma mb) := by
  intro ρ μ s σ H R hs hm h
  refine ⟨_, hp (pa_cons pe_w (pa_cons pe_w pa_nil hs2) hs1), ?_⟩
  refine ha ρ μ s σ H _ hs hm (h.bind fun u μ1 x H1 ρ1 t1 r1 h1 => ?_)
  refine hb ρ1 μ1 s σ H1 _ (t1.s hs) t1.mem (h1.bind fun w μ2 y H2 ρ2 t2 r2 h2 => ?_)
  split at h2
  · cases r1; cases r2
    split at h2
    · rename_i hz
      obtain ⟨h3, h4⟩ := Bool.and_eq_true_iff.mp hz
      have h3' := of_decide_eq_true h3
      have h4' := of_decide_eq_true h4
      exact ⟨_, _, rfl, ⟨h3'.1, h3'.2, h4'.1, h4'.2⟩, h2.ok (Stp.refl t2.mem) it_rng⟩
    · exact h2.elim
  · exact h2.elim
/-- reversed(range(n)) -/
def iRev1 (a : FE) : FI := fun s μ => (a s μ).bind fun u μ1 => match u with
  | .int n => if okR n then .ok (.rng (n.toNat - 1) (-1) n.toNat) μ1 else .bad
  | _ => .bad
theorem ci_rev1 {tg a : Expr} {ma : FE} {p pos p2 pos2 : Pos} (hg : Gl X "reversed") (hm0 : X.mg "reversed" = none) (hg2 : Gl X "range") (hm2 : X.mg "range" = none) (ha : CE X W a ma)
    (hp : ∀ {ta : TE}, PE X a ta → PI X tg (.Call (.Name "reversed" p) [.Call (.Name "range" p2) [a] [] pos2] [] pos) (iRevR (tRg1 ta))) : CI X W tg (.Call (.Name "reversed" p) [.Call (.Name "range" p2) [a] [] pos2] [] pos) (iRev1 ma) := by
  intro ρ μ s σ H R hs hm h
  refine ⟨_, hp pe_w, ?_⟩
  refine ha ρ μ s σ H _ hs hm (h.bind fun u μ1 x H1 ρ1 t1 r1 h1 => ?_)
  split at h1
  · cases r1
    rename_i n
    split at h1
    · rename_i hz
      have hz' := of_decide_eq_true hz
      refine ⟨_, rfl, by decide, by decide, hz'.1, hz'.2, ?_⟩
      have e1 : (n - 0).toNat = n.toNat := by rw [Int.sub_zero]
      have e2 : (0 : Int) + (((n - 0).toNat : Nat) : Int) - 1 = (n.toNat : Int) - 1 := by rw [e1]; omega
      rw [e1, Int.zero_add]
      exact h1.ok (Stp.refl t1.mem) it_rngC
    · exact h1.elim
  · exact h1.elim
theorem it_zipT {K : PySem.W.Frag} {H : Hp} {ρ : List Addr} {a b : Addr} {us ws : List U} {vs xs : List V} (hs : SqT K H a vs) (hr : RepVs K H ρ us vs) (hs2 : SqT K H b xs) (hr2 : RepVs K H ρ ws xs) : ItOk K ρ H (.seq (List.zipWith (fun u w => .tup [u, w]) us ws)) (ItzT K a b) := by
  intro i ρ' H' μ' ex tx hm
  simp only [itemAt]
  have hs' := tx.seq hs
  have hr' := hr.mono tx ex
  have hs2' := tx.seq hs2
  have hr2' := hr2.mono tx ex
  rw [List.getElem?_zipWith]
  cases eu : us[i]? with
  | none =>
    refine ⟨vs, xs, hs', hs2', .inl ?_⟩
    rw [← hr'.length]
    exact List.getElem?_eq_none_iff.mp eu
  | some u =>
    cases ew : ws[i]? with
    | none =>
      refine ⟨vs, xs, hs', hs2', .inr ?_⟩
      rw [← hr2'.length]
      exact List.getElem?_eq_none_iff.mp ew
    | some w =>
      obtain ⟨v, q2, r2⟩ := hr'.get eu
      obtain ⟨v2, q3, r3⟩ := hr2'.get ew
      refine ⟨⟨vs, xs, v, v2, hs', hs2', q2, q3⟩, fun x H'' y => ?_⟩
      obtain ⟨T, x1, y1, rfl, nT, rfl, f1, f2⟩ := y
      have e1 := f1 vs hs'
      rw [q2] at e1
      cases e1
      have e2 := f2 xs hs2'
      rw [q3] at e2
      cases e2
      exact ⟨Stp.temp hm nT, newT nT (.cons r2 (.one r3))⟩
theorem it_zipL {K : PySem.W.Frag} {H : Hp} {ρ : List Addr} {a b : Addr} {r1 r2 : Nat} (h1 : ρ[r1]? = some a) (h2 : ρ[r2]? = some b) : ItOk K ρ H (.zipL r1 r2) (Itz K a b) := by
  intro i ρ' H' μ' ex tx hm
  simp only [itemAt]
  cases e1 : listAt μ' r1 with
  | none => trivial
  | some us =>
    cases e2 : listAt μ' r2 with
    | none => trivial
    | some ws =>
      obtain ⟨vs, q1, rr1⟩ := listAt_ok hm (ex.get h1) e1
      obtain ⟨xs, q2, rr2⟩ := listAt_ok hm (ex.get h2) e2
      simp only
      cases eu : us[i]? with
      | none =>
        refine ⟨vs, xs, q1, q2, .inl ?_⟩
        rw [← rr1.length]
        exact List.getElem?_eq_none_iff.mp eu
      | some u =>
        cases ew : ws[i]? with
        | none =>
          refine ⟨vs, xs, q1, q2, .inr ?_⟩
          rw [← rr2.length]
          exact List.getElem?_eq_none_iff.mp ew
        | some w =>
          obtain ⟨v, q3, r3⟩ := rr1.get eu
          obtain ⟨v2, q4, r4⟩ := rr2.get ew
          refine ⟨⟨vs, xs, v, v2, q1, q2, q3, q4⟩, fun x H'' y => ?_⟩
          obtain ⟨T, x1, y1, rfl, nT, rfl, f1, f2⟩ := y
          have g1 := f1 vs q1
          rw [q3] at g1
          cases g1
          have g2 := f2 xs q2
          rw [q4] at g2
          cases g2
          exact ⟨Stp.temp hm nT, newT nT (.cons r3 (.one r4))⟩
/-- zip of two tuples, of two lists -/
def iZip (a b : FE) : FI := fun s μ => (a s μ).bind fun u μ1 => (b s μ1).bind fun w μ2 => match u, w with
  | .tup us, .tup ws => .ok (.seq (List.zipWith (fun u w => .tup [u, w]) us ws)) μ2
  | .ref r1, .ref r2 => match listAt μ2 r1, listAt μ2 r2 with
    | some _, some _ => .ok (.zipL r1 r2) μ2
    | _, _ => .bad
  | _, _ => .bad
theorem ci_zip {tg a b : Expr} {ma mb : FE} {p pos : Pos} (ha : CE X W a ma) (hb : CE X W b mb)
    (hp : ∀ {ta : TA}, PA X [a, b] ta → PI X tg (.Call (.Name "zip" p) [a, b] [] pos) (iZipA X.K ta)) (hs1 : starEach [a, b] X.env = (false, eval a X.env) :: starEach [b] X.env := by rfl) (hs2 : starEach [b] X.env = (false, eval b X.env) :: starEach [] X.env := by rfl) :
    CI X W tg (.Call (.Name "zip" p) [a, b] [] pos) (iZip ma mb) := by
  intro ρ μ s σ H R hs hm h
  refine ⟨_, hp (pa_cons pe_w (pa_cons pe_w pa_nil hs2) hs1), ?_⟩
  refine ha ρ μ s σ H _ hs hm (h.bind fun u μ1 x H1 ρ1 t1 r1 h1 => ?_)
  refine hb ρ1 μ1 s σ H1 _ (t1.s hs) t1.mem (h1.bind fun w μ2 y H2 ρ2 t2 r2 h2 => ?_)
  have r1' := t2.v r1
  split at h2
  · cases r1' with
    | tup a1 a2 => cases r2 with
      | tup b1 b2 => exact ⟨_, _, _, _, rfl, .inr ⟨a1, b1, h2.ok (Stp.refl t2.mem) (it_zipT a1 a2 b1 b2)⟩⟩
  · cases r1' with
    | ref a1 => cases r2 with
      | ref b1 =>
        split at h2
        · rename_i e1 e2
          obtain ⟨vs, q1, _⟩ := listAt_ok t2.mem a1 e1
          obtain ⟨xs, q2, _⟩ := listAt_ok t2.mem b1 e2
          exact ⟨_, _, _, _, rfl, .inl ⟨q1, q2, h2.ok (Stp.refl t2.mem) (it_zipL a1 b1)⟩⟩
        · exact h2.elim
  · exact h2.elim

/-! ### for -/
def fuelF : Nat := 1000000
def sForGo (g : Tgt) (b : FS) : Nat → IterU → Nat → FS
  | 0, _, _ => fun _ _ => .bad
  | f + 1, it, i => fun s μ => match itemAt it i μ with
    | none => .bad
    | some none => .nx s μ
    | some (some u) => match setT g u s with
      | none => .bad
      | some s1 => match b s1 μ with
        | .nx s2 μ2 => sForGo g b f it (i + 1) s2 μ2
        | .ct s2 μ2 => sForGo g b f it (i + 1) s2 μ2
        | .bk s2 μ2 => .nx s2 μ2
        | o => o
def sFor (it : FI) (g : Tgt) (b : FS) : FS := fun s μ => ofR (it s μ) s fun j μ1 => sForGo g b fuelF j 0 s μ1
theorem cs_for {tg iter : Expr} {body : List Stmt} {mi : FI} {g : Tgt} {b : FS} {pos : Pos} (G : Good X W k) (hi : CI X W tg iter mi) (hg : CG X tg g) (hb : CSs X W body b)
    (hs0 : ∀ x, foldedSetIterable iter X.env x = pure x := by intro _; rfl) : CS X W (.For tg iter body [] pos) (sFor mi g b) := by
  intro ρ μ s σ H D hs hm h
  refine ⟨_, ps_for G.po G.calm pi_w pg_w pss_w hs0, ?_⟩
  refine hi ρ μ s σ H _ hs hm (PostS.bind hs h fun j μ1 J H1 ρ1 t1 r1 h1 => ?_)
  have hJ : ItOk X.K ρ1 H1 j J := r1
  refine ⟨fun i m σ' H' => ∃ ρ' s' μ', Stp X.K ρ1 H1 ρ' H' μ' ∧ RepS X.K H' ρ' s' σ' ∧ PostS X W ρ' H' (sForGo g b m j i s' μ') D, ⟨fuelF, ρ1, s, μ1, Stp.refl t1.mem, t1.s hs, h1⟩, ?_⟩
  intro i m σ' H' ⟨ρ', s', μ', t', hs', h'⟩
  cases m with
  | zero => exact h'.elim
  | succ m =>
    have q := hJ i ρ' H' μ' t'.ext t'.tx t'.mem
    unfold sForGo at h'
    cases e : itemAt j i μ' with
    | none => rw [e] at h'; exact h'.elim
    | some o =>
      rw [e] at h' q
      cases o with
      | none => exact .inl ⟨q, h' σ' H' ρ' (Stp.refl t'.mem) hs'⟩
      | some u =>
        refine .inr ⟨q.1, fun σ2 H2 => ∃ ρ2 s2 μ2, Stp X.K ρ1 H1 ρ2 H2 μ2 ∧ RepS X.K H2 ρ2 s2 σ2 ∧ PostS X W ρ2 H2 (sForGo g b m j (i + 1) s2 μ2) D, fun σ2 H2 z => ⟨m, Nat.lt_succ_self m, z⟩, fun x H'' y => ?_⟩
        obtain ⟨t2, ru⟩ := q.2 x H'' y
        simp only at h'
        cases es : setT g u s' with
        | none => rw [es] at h'; exact h'.elim
        | some s1 =>
          rw [es] at h'
          simp only at h'
          refine hg ρ' s' σ' H'' u x s1 _ (t2.s hs') ru es fun σ3 hs3 _ => ?_
          refine hb ρ' μ' s1 σ3 H'' _ hs3 t2.mem ?_
          cases eb : b s1 μ' with
          | nx s2 μ2 =>
            rw [eb] at h'
            exact fun σ4 H4 ρ4 t r => ⟨ρ4, s2, μ2, (t'.trans t2).trans t, r, PostS.from (t2.trans t) h'⟩
          | ct s2 μ2 =>
            rw [eb] at h'
            exact fun σ4 H4 ρ4 t r => ⟨ρ4, s2, μ2, (t'.trans t2).trans t, r, PostS.from (t2.trans t) h'⟩
          | bk s2 μ2 => rw [eb] at h'; exact PostS.from t2 h'
          | rt u m2 => rw [eb] at h'; exact PostS.from t2 h'
          | ex c2 u m2 => rw [eb] at h'; exact PostS.from t2 h'
          | bad => rw [eb] at h'; exact h'.elim

/-! ### [e for x in xs if t] -/
def wipeU (s : Slots) : List Nat → Slots
  | [] => s
  | v :: vs => (wipeU s vs).set v none
def lcGo (j : IterU) (own : List Nat) (g : Tgt) (t : FT) (e : FE) (s : Slots) (D : Nat) : Nat → Nat → Mem → Res U
  | 0, _, _ => .bad
  | f + 1, i, μ => match itemAt j i μ with
    | none => .bad
    | some none => .ok (.ref D) μ
    | some (some u) => match setT g u (wipeU s own) with
      | none => .bad
      | some s1 => match t s1 μ with
        | .ok true μ3 => match e s1 μ3 with
          | .ok v μ4 => match μ4[D]? with
            | some (.lst acc) => if acc.length < lim then lcGo j own g t e s D f (i + 1) (μ4.set D (.lst (acc ++ [v]))) else .bad
            | _ => .bad
          | _ => .bad
        | .ok false μ3 => lcGo j own g t e s D f (i + 1) μ3
        | _ => .bad
def fLc (it : FI) (own : List Nat) (g : Tgt) (t : FT) (e : FE) : FE := fun s μ => (it s μ).bind fun j μ1 => lcGo j own g t e s μ1.length fuelF 0 (μ1 ++ [.lst []])
def tAll : FT := fun _ μ => .ok true μ
theorem RepS.wipe {K : PySem.W.Frag} {H : Hp} {ρ : List Addr} {s : Slots} {σ : L2.St} (h : RepS K H ρ s σ) : ∀ vs : List Nat, RepS K H ρ (wipeU s vs) (L2.wipe σ vs)
  | [] => h
  | v :: vs => by
    have ih := RepS.wipe h vs
    refine ⟨by simp [wipeU, L2.wipe, ih.len], fun i u e => ?_⟩
    by_cases hv : v = i
    · subst hv
      have : v < (wipeU s vs).length := by
        have := (List.getElem?_eq_some_iff.mp e).1
        simpa [wipeU] using this
      simp only [wipeU] at e
      rw [List.getElem?_set_self this] at e
      cases e
    · simp only [wipeU] at e
      rw [List.getElem?_set_ne hv] at e
      obtain ⟨x, q, r⟩ := ih.get i u e
      refine ⟨x, ?_, r⟩
      show ((L2.wipe σ vs).set v none)[i]? = _
      rw [List.getElem?_set_ne hv]
      exact q
abbrev W0 : WX := fun _ _ _ _ => False
/-- an element of a comprehension, in all the frames that it may have -/
def WEb (X : Cx) (scope : Scope) (e : Expr) : TE := fun σ H Q => ∀ (s : Shared) (H0 : Hp) (C : Addr) (cl : List (Str × Addr)) (fp : List Addr), WE (X.blk s H0 scope (compEnvC scope cl C X.env) fp) e σ H Q
theorem pe_wb {scope : Scope} {e : Expr} (s : Shared) (H0 : Hp) (C : Addr) (cl : List (Str × Addr)) (fp : List Addr) : PE (X.blk s H0 scope (compEnvC scope cl C X.env) fp) e (WEb X scope e) :=
  ⟨fun pins s1 σ H Q I q => pe_w.run pins s1 σ H Q I (q s H0 C cl fp)⟩
def WGb (X : Cx) (scope : Scope) (e : Expr) : TG := fun v σ H Q => ∀ (s : Shared) (H0 : Hp) (C : Addr) (cl : List (Str × Addr)) (fp : List Addr), WG (X.blk s H0 scope (compEnvC scope cl C X.env) fp) e v σ H Q
theorem pg_wb {scope : Scope} {e : Expr} (s : Shared) (H0 : Hp) (C : Addr) (cl : List (Str × Addr)) (fp : List Addr) : PG (X.blk s H0 scope (compEnvC scope cl C X.env) fp) e (WGb X scope e) :=
  ⟨fun pins s1 σ H v u Q I r q => pg_w.run pins s1 σ H v u Q I r (q s H0 C cl fp)⟩
def WTs (X : Cx) (ifs : List Expr) : TT := fun σ H Q => ∃ t, PTs X ifs t ∧ t σ H Q
theorem pts_w {ifs : List Expr} : PTs X ifs (WTs X ifs) := ⟨fun pins s σ H Q I ⟨_, h, q⟩ => h.run pins s σ H Q I q⟩
def CTs (X : Cx) (W : WX) (ifs : List Expr) (m : FT) : Prop := ∀ ρ μ s σ H Q, RepS X.K H ρ s σ → RepM X.K H ρ μ → Post X W σ relB ρ H (m s μ) Q → WTs X ifs σ H Q
theorem cts_nil : CTs X W [] tAll := fun ρ μ s σ H Q hs hm h => ⟨_, pts_nil, h.ok (Stp.refl hm) rfl⟩
theorem cts_one {c : Expr} {t : FT} (h : CT X W c t) : CTs X W [c] t := fun ρ μ s σ H Q hs hm p => ⟨_, pts_one pt_w, h ρ μ s σ H Q hs hm p⟩
def WTb (X : Cx) (scope : Scope) (ifs : List Expr) : TT := fun σ H Q => ∀ (s : Shared) (H0 : Hp) (C : Addr) (cl : List (Str × Addr)) (fp : List Addr), WTs (X.blk s H0 scope (compEnvC scope cl C X.env) fp) ifs σ H Q
theorem pts_wb {scope : Scope} {ifs : List Expr} (s : Shared) (H0 : Hp) (C : Addr) (cl : List (Str × Addr)) (fp : List Addr) : PTs (X.blk s H0 scope (compEnvC scope cl C X.env) fp) ifs (WTb X scope ifs) :=
  ⟨fun pins s1 σ H Q I q => pts_w.run pins s1 σ H Q I (q s H0 C cl fp)⟩
def subT (g : Tgt) (own : List Nat) : Bool := match g with
  | .one i => decide (i ∈ own)
  | .tup is => is.all fun i => decide (i ∈ own)
theorem subT_ok {g : Tgt} {own : List Nat} (h : subT g own = true) : inT g own := by
  cases g with
  | one i =>
    have h' : decide (i ∈ own) = true := h
    have h2 : i ∈ own := of_decide_eq_true h'
    exact h2
  | tup is =>
    have h' : (is.all fun i => decide (i ∈ own)) = true := h
    have h2 : ∀ i ∈ is, i ∈ own := fun i hi => of_decide_eq_true (List.all_eq_true.mp h' i hi)
    exact h2
/-- what a comprehension's reading asks is shown by the mirror's -/
theorem lc_reads {tg iter : Expr} {ifs : List Expr} {elt : Expr} {scope : Scope} {own : List Nat} {mi : FI} {g : Tgt} {t : FT} {e : FE} (hi : CI X W tg iter mi)
    (hg : ∀ s H0 C cl fp, CG (X.blk s H0 scope (compEnvC scope cl C X.env) fp) tg g) (ht : ∀ s H0 C cl fp, CTs (X.blk s H0 scope (compEnvC scope cl C X.env) fp) W0 ifs t)
    (he : ∀ s H0 C cl fp, CE (X.blk s H0 scope (compEnvC scope cl C X.env) fp) W0 elt e) (hsub : subT g own = true)
    {ρ : List Addr} {μ : Mem} {s : Slots} {σ : L2.St} {H : Hp} {Q : VK} (hs : RepS X.K H ρ s σ) (hm : RepM X.K H ρ μ) (h : Post X W σ relV ρ H (fLc mi own g t e s μ) Q) :
    tLc (WI X tg iter) (WGb X scope tg) (WTb X scope ifs) (WEb X scope elt) own σ H Q := by
  refine hi ρ μ s σ H _ hs hm (h.bind fun j μ1 J H1 ρ1 t1 r1 h1 => ?_)
  intro D hD
  have hJ : ItOk X.K ρ1 H1 j J := r1
  have tD := newL t1.mem hD (RepVs.nil (K := X.K) (H := H1) (ρ := ρ1))
  refine ⟨fun i m H' => ∃ ρ' μ', Stp X.K (ρ1 ++ [D]) (upd H1 D (.lst [])) ρ' H' μ' ∧ Post X W σ relV ρ' H' (lcGo j own g t e s μ1.length m i μ') Q, ⟨fuelF, ρ1 ++ [D], μ1 ++ [.lst []], Stp.refl tD.mem, ?_⟩, ?_⟩
  · revert h1
    generalize lcGo j own g t e s μ1.length fuelF 0 (μ1 ++ [.lst []]) = z
    intro h1
    cases z with
    | ok c m2 => exact fun v2 H3 ρ3 t3 q3 => h1 v2 H3 ρ3 (tD.trans t3) q3
    | ex c m2 => exact fun cls H3 ρ3 t3 e => h1 cls H3 ρ3 (tD.trans t3) e
    | bad => exact h1
  intro i m H' ⟨ρ', μ', t', h'⟩
  have hDr : ρ'[μ1.length]? = some D := t'.ext.get (by rw [← t1.mem.len, List.getElem?_append_right (Nat.le_refl _)]; simp)
  cases m with
  | zero => exact h'.elim
  | succ m =>
    have q := hJ i ρ' H' μ' (tD.ext.trans t'.ext) (tD.tx.trans t'.tx) t'.mem
    unfold lcGo at h'
    cases e0 : itemAt j i μ' with
    | none => rw [e0] at h'; exact h'.elim
    | some o =>
      rw [e0] at h' q
      cases o with
      | none => exact .inl ⟨q, h'.ok (Stp.refl t'.mem) (.ref hDr)⟩
      | some u =>
        refine .inr ⟨q.1, fun H2 => ∃ ρ2 μ2, Stp X.K (ρ1 ++ [D]) (upd H1 D (.lst [])) ρ2 H2 μ2 ∧ Post X W σ relV ρ2 H2 (lcGo j own g t e s μ1.length m (i + 1) μ2) Q, fun H2 z => ⟨m, Nat.lt_succ_self m, z⟩, fun x H'' y => ?_⟩
        obtain ⟨t2, ru⟩ := q.2 x H'' y
        simp only at h'
        have hsw : RepS X.K H'' ρ' (wipeU s own) (wipe σ own) := (t2.s (t'.s (tD.s (t1.s hs)))).wipe own
        cases es : setT g u (wipeU s own) with
        | none => rw [es] at h'; exact h'.elim
        | some s1 =>
          rw [es] at h'
          simp only at h'
          intro s0 H0 C cl fp
          refine hg s0 H0 C cl fp ρ' (wipeU s own) (wipe σ own) H'' u x s1 _ hsw ru es fun σ3 hs3 hw => ⟨?_, ?_⟩
          · have := hw own (subT_ok hsub)
            rw [this]
            exact wipe_wipe fun i hi => hi
          · intro s0' H0' C' cl' fp'
            refine ht s0' H0' C' cl' fp' ρ' μ' s1 σ3 H'' _ hs3 t2.mem ?_
            cases et : t s1 μ' with
            | ex c m2 => rw [et] at h'; exact h'.elim
            | bad => rw [et] at h'; exact h'.elim
            | ok b μ3 =>
              rw [et] at h'
              intro b' H4 ρ4 t4 r4
              cases r4
              cases b with
              | false =>
                refine iteF ⟨ρ4, μ3, (t'.trans t2).trans t4, ?_⟩
                simp only at h'
                revert h'
                generalize lcGo j own g t e s μ1.length m (i + 1) μ3 = z
                intro h'
                cases z with
                | ok c m2 => exact fun v2 H3 ρ3 t3 q3 => h' v2 H3 ρ3 ((t2.trans t4).trans t3) q3
                | ex c m2 => exact fun cls H3 ρ3 t3 e => h' cls H3 ρ3 ((t2.trans t4).trans t3) e
                | bad => exact h'
              | true =>
                refine iteT ?_
                intro s0' H0' C' cl' fp'
                refine he s0' H0' C' cl' fp' ρ4 μ3 s1 σ3 H4 _ (t4.s hs3) t4.mem ?_
                simp only at h'
                cases ee : e s1 μ3 with
                | ex c m2 => rw [ee] at h'; exact h'.elim
                | bad => rw [ee] at h'; exact h'.elim
                | ok v μ4 =>
                  rw [ee] at h'
                  simp only at h'
                  intro w H5 ρ5 t5 r5
                  split at h'
                  · rename_i acc em
                    split at h'
                    · rename_i hz
                      have hD5 : ρ5[μ1.length]? = some D := t5.ext.get (t4.ext.get (t2.ext.get hDr))
                      obtain ⟨ws, q5, rr⟩ := lst_of t5.mem hD5 em
                      have t6 := putL t5.mem hD5 em (rr.append (.one r5))
                      refine ⟨ws, q5, by rw [← rr.length]; exact lim_lt hz, ρ5, _, (((t'.trans t2).trans t4).trans t5).trans t6, ?_⟩
                      revert h'
                      generalize lcGo j own g t e s μ1.length m (i + 1) (μ4.set μ1.length (.lst (acc ++ [v]))) = z
                      intro h'
                      cases z with
                      | ok c m2 => exact fun v2 H3 ρ3 t3 q3 => h' v2 H3 ρ3 ((((t2.trans t4).trans t5).trans t6).trans t3) q3
                      | ex c m2 => exact fun cls H3 ρ3 t3 e => h' cls H3 ρ3 ((((t2.trans t4).trans t5).trans t6).trans t3) e
                      | bad => exact h'
                    · exact h'.elim
                  · exact h'.elim
theorem ce_lc {tg iter : Expr} {ifs : List Expr} {elt : Expr} {scope : Scope} {own : List (Str × Nat)} {pos : Pos} {mi : FI} {g : Tgt} {t : FT} {e : FE} (G : Good X W k) (hN : X.N.Nodup) (ok : BlkOk X.N X.env.scope scope own) (hi : CI X W tg iter mi)
    (hg : ∀ s H0 C cl fp, CG (X.blk s H0 scope (compEnvC scope cl C X.env) fp) tg g) (ht : ∀ s H0 C cl fp, CTs (X.blk s H0 scope (compEnvC scope cl C X.env) fp) W0 ifs t)
    (he : ∀ s H0 C cl fp, CE (X.blk s H0 scope (compEnvC scope cl C X.env) fp) W0 elt e) (hsub : subT g (own.map (·.2)) = true) (hs0 : ∀ x, foldedSetIterable iter X.env x = pure x := by intro _; rfl) :
    CE X W (.ListComp elt [⟨tg, iter, ifs, 0⟩] scope pos) (fLc mi (own.map (·.2)) g t e) :=
  fun ρ μ s σ H Q hs hm h => ⟨_, pe_lc G.calm hN pi_w ok pg_wb pts_wb pe_wb hs0, lc_reads hi hg ht he hsub hs hm h⟩
theorem cs_setLc {i : Nat} {y : Str} {py : Pos} {tg iter : Expr} {ifs : List Expr} {elt : Expr} {scope : Scope} {own : List (Str × Nat)} {pos spos : Pos} {mi : FI} {g : Tgt} {t : FT} {e : FE} (G : Good X W k) (hN : X.N.Nodup) (hy : X.N[i]? = some y) (hyl : X.env.scope.names.lookup y = some .local)
    (hsw : swapsWith (.ListComp elt [⟨tg, iter, ifs, 0⟩] scope pos) (some (.Name y py)) spos.line X.env = pure true) (ok : BlkOk X.N X.env.scope scope own) (hi : CI X W tg iter mi)
    (hg : ∀ s H0 C cl fp, CG (X.blk s H0 scope (compEnvC scope cl C X.env) fp) tg g) (ht : ∀ s H0 C cl fp, CTs (X.blk s H0 scope (compEnvC scope cl C X.env) fp) W0 ifs t)
    (he : ∀ s H0 C cl fp, CE (X.blk s H0 scope (compEnvC scope cl C X.env) fp) W0 elt e) (hsub : subT g (own.map (·.2)) = true)
    (hp : ∀ {wi : TI} {gg : TG} {tt : TT} {te : TE}, PI X tg iter wi → (∀ (s : Shared) (H : Hp) (C : Addr) (cl : List (Str × Addr)) (fp : List Addr), PG (X.blk s H scope (compEnvC scope cl C X.env) fp) tg gg) → (∀ (s : Shared) (H : Hp) (C : Addr) (cl : List (Str × Addr)) (fp : List Addr), PTs (X.blk s H scope (compEnvC scope cl C X.env) fp) ifs tt) →
      (∀ (s : Shared) (H : Hp) (C : Addr) (cl : List (Str × Addr)) (fp : List Addr), PE (X.blk s H scope (compEnvC scope cl C X.env) fp) elt te) → PS X (.Assign [.Name y py] (.ListComp elt [⟨tg, iter, ifs, 0⟩] scope pos) spos) (tAsg (tLc wi gg tt te (own.map (·.2))) (gName i))) :
    CS X W (.Assign [.Name y py] (.ListComp elt [⟨tg, iter, ifs, 0⟩] scope pos) spos) (sAsg (.one i) (fLc mi (own.map (·.2)) g t e)) := by
  intro ρ μ s σ H D hs hm h
  refine ⟨_, hp pi_w pg_wb pts_wb pe_wb, ?_⟩
  refine lc_reads (W := W) hi hg ht he hsub hs hm ?_
  exact PostS.bind hs h fun u μ1 x H1 ρ1 t1 r1 h1 => h1 _ H1 ρ1 (Stp.refl t1.mem) ((t1.s hs).set r1)

/-! ### a def -/
def spF (K : PySem.W.Frag) (mg : Str → Option Value) (n : Nat) (g : List U → Mem → Res U) : Sp := fun vs H Q E => vs.length = n ∧ ∃ ρ μ us, RepVs K H ρ us vs ∧ RepM K H ρ μ ∧ match g us μ with
  | .ok u μ' => ∀ v H' ρ', Stp K ρ H ρ' H' μ' → RepV K H' ρ' u v → Q v H'
  | .ex c μ' => ∀ cls H' ρ', Stp K ρ H ρ' H' μ' → mg c = some cls → E cls none H'
  | .bad => False
def fDef (n : Nat) (g : List U → Mem → Res U) (a : FA) : FE := fun s μ => (a s μ).bind fun us μ1 => if us.length = n then g us μ1 else .bad
theorem ce_def {f : Addr} {fd : FuncData} {ps : List Str} {g : List U → Mem → Res U} {x : Str} {e : Expr} {es : List Expr} {ma : FA} {p pos : Pos} {j : Nat} (G : Good X W j) (hj : k ≤ j) (F : FnOk X.prog X.w X.K X.mg X.base (L2.CX X.prog X.w) k f fd ps (spF X.K X.mg ps.length g))
    (ha : CA X W (e :: es) ma) (hp : ∀ {E : L2.St → XK} {t : TA}, (∀ σ, PassesAt (L2.CX X.prog X.w) X σ (E σ)) → PA X (e :: es) t → PE X (.Call (.Name x p) (e :: es) [] pos) (tCallS (spF X.K X.mg ps.length g) E t)) :
    CE X W (.Call (.Name x p) (e :: es) [] pos) (fDef ps.length g ma) := by
  intro ρ μ s σ H Q hs hm h
  refine ⟨_, hp (fun σ => passAt G.tk σ) pa_w, ?_⟩
  refine ha ρ μ s σ H _ hs hm (h.bind fun us μ1 vs H1 ρ1 t1 r1 h1 => ?_)
  split at h1
  · rename_i hl
    refine ⟨by rw [← RepVs.length r1]; exact hl, ρ1, μ1, us, r1, t1.mem, ?_⟩
    generalize g us μ1 = z at h1
    cases z with
    | ok u m => exact fun v H' ρ' t r => h1 v H' ρ' t r
    | ex c m => exact fun cls H' ρ' t e => h1 cls H' ρ' t e
    | bad => exact h1
  · exact h1.elim
def runDef (n : Nat) (body : FS) (us : List U) (μ : Mem) : Res U := match body (us.map some ++ List.replicate (n - us.length) none) μ with
  | .nx _ μ' => .ok .non μ'
  | .rt u μ' => .ok u μ'
  | .ex c _ μ' => .ex c μ'
  | _ => .bad
theorem RepS.start {K : PySem.W.Frag} {H : Hp} {ρ : List Addr} {us : List U} {vs : List V} {N : List Str} (r : RepVs K H ρ us vs) : RepS K H ρ (us.map some ++ List.replicate (N.length - us.length) none) (start N vs) := by
  refine ⟨by unfold L2.start; simp [r.length], fun i u e => ?_⟩
  by_cases hi : i < us.length
  · rw [List.getElem?_append_left (by simpa using hi), List.getElem?_map] at e
    cases eu : us[i]? with
    | none => rw [eu] at e; cases e
    | some w =>
      rw [eu] at e
      cases e
      obtain ⟨v, q, rr⟩ := r.get eu
      refine ⟨v, ?_, rr⟩
      unfold L2.start
      rw [List.getElem?_append_left (by rw [List.length_map, ← r.length]; exact hi), List.getElem?_map, q]
      rfl
  · rw [List.getElem?_append_right (by simpa using Nat.le_of_not_lt hi)] at e
    have := List.mem_of_getElem? e
    simp at this
theorem def_ok {P : Program} {w : World} {K : PySem.W.Frag} {mg : Str → Option Value} {base : Heap} {x qual : Str} {st : Stmt} {f : Addr} {fd : FuncData} {N ps : List Str} {k : Nat} {body : FS} (F : Fun K x qual st f fd) (S : FnScope N ps (defScope st))
    (hb : ∀ (cdv : Value) (A : Around) (outer : List Env) (s : Shared) (H : Hp) (E : XK), Good (cxOf (L2.CX P w) P w K mg base N qual (defScope st) f cdv A outer s H E) (fun cls d _ H => E cls d H) k →
      CSs (cxOf (L2.CX P w) P w K mg base N qual (defScope st) f cdv A outer s H E) (fun cls d _ H => E cls d H) (defBody st) body) :
    FnOk P w K mg base (L2.CX P w) (k + 1) f fd ps (spF K mg ps.length (runDef N.length body)) := by
  refine F.okX S (fun vs H Q E h => h.1) (fun cdv A outer s H vs Q E hr h => ?_)
  obtain ⟨hl, ρ, μ, us, r, hm, hq⟩ := h
  have G : Good (cxOf (L2.CX P w) P w K mg base N qual (defScope st) f cdv A outer s H E) (fun cls d _ H => E cls d H) k := ⟨rfl, hr, takes_of rfl rfl rfl rfl, passes_of rfl⟩
  refine hb cdv A outer s H E G ρ μ _ _ H _ (RepS.start r) hm ?_
  unfold runDef at hq
  cases e : body (us.map some ++ List.replicate (N.length - us.length) none) μ with
  | nx s' m => rw [e] at hq; exact fun σ' H' ρ' t _ => hq _ H' ρ' t .non
  | rt u m => rw [e] at hq; exact fun v H' ρ' t r => hq v H' ρ' t r
  | bk s' m => rw [e] at hq; exact hq.elim
  | ct s' m => rw [e] at hq; exact hq.elim
  | ex c s' m => rw [e] at hq; exact fun cls σ' H' ρ' t _ eq => hq cls H' ρ' t eq
  | bad => rw [e] at hq; exact hq.elim
end
end Dg
/-! Dg6: further rules: extend by a tuple, dict copies and displays, reversed copies, constants of the module, the end. -/
namespace Dg
open PySem PySem.Spec PyProof.Rows L2 RZ

/-! ### xs.extend(ys), ys a list or a tuple -/
theorem mt_extendA {X : Cx} : MtR X "list.extend" (fun x vs H Q => ∃ l b xs zs, x = .ref l ∧ vs = [.ref b] ∧ H l = some (.lst xs) ∧ (SqL X.K H b zs ∨ SqT X.K H b zs) ∧ xs.length + zs.length ≤ sizeLine ∧ Q .non (upd H l (.lst (xs ++ zs)))) := by
  intro pins s σ H x vs v us Q I rx rv h
  obtain ⟨l, b, xs, zs, rfl, rfl, hH, hB, hz, q⟩ := h
  cases rx
  obtain ⟨u, rfl, ru⟩ := rv.one
  cases ru
  obtain ⟨z, its, n, r, hl, e⟩ := I.lstM hH
  have main : ∀ (T : String) (hT : T = "list" ∨ T = "tuple") (its2 : List Value) (o : Obj) (n2 : Nat), Vals zs its2 → s.heap.get? b = some o → o.cls = .type T → o.data = .seq its2.toArray n2 →
      wpAny (model X.prog X.w) X.A (call (.builtin "list.extend") [.ref l, .ref b]) (EP X pins σ Q) X.xe s := by
    intro T hT its2 o n2 r2 ho hc hd
    have hsz : its.toArray.size + its2.toArray.size ≤ sizeLine := by
      rw [List.size_toArray, List.size_toArray, ← r.length, ← r2.length]; exact hz
    have hlong : (!its.toArray.isEmpty && Builtin.List.listTooLong (its.toArray.size + its2.toArray.size)) = false := by
      rw [notLongL hsz, Bool.and_false]
    refine call_meets (S := fun _ R s' => s' = s ∧ R (.ok (.ret Value.none)) { s with heap := s.heap.update l (Obj.mapSeq fun x => x ++ its2.toArray) }) F.slot_list_extend ⟨_, e, rfl⟩ F.entry_list_extend (F.args_list_extend_2 _ _) ?_ ⟨rfl, ?_⟩
    · intro prog w A R s' hs
      obtain ⟨rfl, hR⟩ := hs
      show wpAny _ A.in1 (Builtin.List.listExtendWith (.ref l) (.ref b) .none) _ _ _
      unfold Builtin.List.listExtendWith
      refine wpAny_bind (wpAny_typeOf ⟨o, ho, hc⟩ ?_)
      have h1 : (Builtin.List.listSameRef (.ref l) (.ref b) || Value.type T == Value.type "list" || Value.type T == Value.type "tuple") = true := by
        rcases hT with rfl | rfl <;> simp
      simp only [h1, if_true]
      refine wpAny_bind ?_
      unfold Builtin.List.listItems
      refine wpAny_bind (wpAny_seqItems ho hd (wpAny_pure ?_))
      refine wpAny_bind ?_
      refine wpAny_bind (wpAny_seqItems e rfl (wpAny_pure ?_))
      rw [hlong]
      simp only [Bool.false_eq_true, if_false]
      refine wpAny_bind (wpAny_updateSeq e rfl ?_)
      exact wpAny_pure hR
    · refine ⟨.non, _, I.lset (its' := its ++ its2) (t' := s.toks) hH e (by simp) (r.append r2) ?_, rfl, q⟩
      rw [List.length_append]; exact hz
  rcases hB with hB | hB
  · obtain ⟨its2, r2, pl, hz2⟩ := I.list hB
    obtain ⟨o, ho, hc, n2, hd⟩ := pl.isList
    exact main "list" (.inl rfl) its2 o n2 r2 ho hc hd
  · obtain ⟨its2, r2, pl, hz2⟩ := I.tuple hB
    obtain ⟨o, ho, hc, n2, hd⟩ := pl
    exact main "tuple" (.inr rfl) its2 o n2 r2 ho hc hd
section
variable {X : Cx} {W : WX} {k : Nat}
def gExt (u : U) (us : List U) (μ : Mem) : Res U := match u, us with
  | .ref i, [w] => match μ[i]?, seqU μ w with
    | some (.lst xs), some ys => if xs.length + ys.length ≤ lim then .ok .non (μ.set i (.lst (xs ++ ys))) else .bad
    | _, _ => .bad
  | _, _ => .bad
theorem gs_ext : MtS X W "list.extend" gExt := by
  intro ρ μ σ H u us x vs Q hm ru rus h
  unfold gExt at h
  split at h
  · split at h
    · rename_i e e2
      split at h
      · cases ru with
        | ref hr =>
          cases rus with
          | cons r1 r2 =>
            cases r2
            obtain ⟨ws, q, rr⟩ := lst_of hm hr e
            obtain ⟨b, zs, rfl, q2, rr2⟩ := seqU_ok hm r1 e2
            exact ⟨_, mt_extendA, _, b, ws, zs, rfl, rfl, q, q2, by rw [← rr.length, ← rr2.length]; exact lim_le (by assumption), h.ok (putL hm hr e (rr.append rr2)) .non⟩
      · exact h.elim
    · exact h.elim
  · exact h.elim

/-! ### xs[::-1] -/
def fRevL (a : FE) : FE := fun s μ => (a s μ).bind fun u μ1 => match lstU μ1 u with
  | some us => .ok (.ref μ1.length) (μ1 ++ [.lst us.reverse])
  | none => .bad
theorem ce_revL {e : Expr} {me : FE} {j : Nat} {p1 p2 p3 pos : Pos} (he : CE X W e me) : CE X W (.Subscript e (.Slice none none (some (.UnaryOp .USub (.Constant (.int 1) j p1) p2)) p3) pos) (fRevL me) := by
  intro ρ μ s σ H Q hs hm h
  refine ⟨_, pe_revL pe_w, ?_⟩
  refine he ρ μ s σ H _ hs hm (h.bind fun u μ1 x H1 ρ1 t1 r1 h1 => ?_)
  split at h1
  · rename_i us e1
    obtain ⟨a, vs, rfl, q1, r2⟩ := lstU_ok t1.mem r1 e1
    exact ⟨_, _, rfl, q1, fun p np => h1.ok (newL t1.mem np r2.reverse) (refN t1.mem)⟩
  · exact h1.elim

/-! ### dict(d), {}, {k: v, ..} -/
def bDict (us : List U) (μ : Mem) : Res U := match us with
  | [u] => match dctU μ u with
    | some kus => .ok (.ref μ.length) (μ ++ [.dct kus])
    | none => .bad
  | _ => .bad
theorem cs_dict : CallS X W (.type "dict") bDict := by
  intro ρ μ σ H us vs Q hm r h
  unfold bDict at h
  split at h
  · cases r with
    | cons ru r0 =>
      cases r0
      split at h
      · rename_i kus e
        obtain ⟨a, kvs, rfl, q1, r1⟩ := dct_at hm ru e
        exact ⟨_, call_dictD, a, kvs, rfl, .inl q1, fun p np => h.ok (newD hm np r1) (refN hm)⟩
      · exact h.elim
  · exact h.elim
def fD0 : FE := fun _ μ => .ok (.ref μ.length) (μ ++ [.dct []])
theorem ce_d0 {pos : Pos} : CE X W (.Dict [] [] pos) fD0 := fun ρ μ s σ H Q hs hm h => ⟨_, pe_dnewK, fun p np => h.ok (newD hm np RepKV.nil) (refN hm)⟩

/-! ### constants of the module -/
def GlobC (K : PySem.W.Frag) (mg : Str → Option Value) (x : Str) (u : U) : Prop := ∃ z v, mg x = some z ∧ RelV v z ∧ ∀ H ρ, RepV K H ρ u v
theorem ce_globC {x : Str} {u : U} {pos : Pos} (hg : Gl X x) (h : GlobC X.K X.mg x u) (hd : (x == ("__debug__" : Str)) = false := by decide) : CE X W (.Name x pos) (fC u) := by
  obtain ⟨z, v, h1, h2, h3⟩ := h
  exact ce_glob hg h1 h2 h3 hd
/-- a dict of the module with text keys, asked by a key that is there -/
def KTab (K : PySem.W.Frag) (mg : Str → Option Value) (w : World) (x : Str) (tab : List (Str × U)) : Prop := ∃ a, mg x = some (.ref a) ∧ ∀ z u, tab.lookup z = some u → ∃ v, KDct K w a z v ∧ ∀ H ρ, RepV K H ρ u v
def fKGet (tab : List (Str × U)) (i : FE) : FE := fun s μ => (i s μ).bind fun u μ1 => match u with
  | .str z => opt (tab.lookup z) μ1
  | _ => .bad
theorem ce_kget {x : Str} {tab : List (Str × U)} {i : Expr} {mi : FE} {p pos : Pos} (hg : Gl X x) (h : KTab X.K X.mg X.w x tab) (hi : CE X W i mi) (hp : PlainIx i := by exact fun _ _ => rfl) (hd : (x == ("__debug__" : Str)) = false := by decide) :
    CE X W (.Subscript (.Name x p) i pos) (fKGet tab mi) := by
  intro ρ μ s σ H Q hs hm q
  obtain ⟨a, h1, h2⟩ := h
  refine ⟨_, pe_ix ix_kdict (pe_glob hg h1 (v := .ref a) rfl hd) pe_w hp, ?_⟩
  refine hi ρ μ s σ H _ hs hm (q.bind fun u μ1 y H1 ρ1 t1 r1 h3 => ?_)
  split at h3
  · rename_i z
    cases r1
    cases e : tab.lookup z with
    | none => rw [e] at h3; exact h3.elim
    | some w =>
      rw [e] at h3
      obtain ⟨v, h4, h5⟩ := h2 z w e
      exact ⟨a, z, v, rfl, rfl, h4, h3.ok (Stp.refl t1.mem) (h5 _ _)⟩
  · exact h3.elim

/-! ### a def without arguments -/
theorem pe_call0S {f : Addr} {fd : FuncData} {ps : List Str} {sp : Sp} {CX : CXT} {E : L2.St → XK} {x : Str} {p pos : Pos} (F : FnOk X.prog X.w X.K X.mg X.base CX k f fd ps sp) (hr : Room k X.A) (hg : Gl X x) (hm : X.mg x = some (.ref f)) (hk : PySem.W.keepIn X.K (.ref f) = true) (hb : Binds X.K fd ps []) (hx : ∀ σ, PassesAt CX X σ (E σ))
    (hdb : (x == ("__debug__" : Str)) = false := by decide) : PE X (.Call (.Name x p) [] [] pos) (fun σ H Q => sp [] H Q (E σ)) := by
  refine ⟨fun pins s σ H Q I h => ?_⟩
  refine wpAny_Call_Name_kw (ld_glob I hg hm ?_ hdb)
  exact PySem.W.callWith_K0 I.kIn hk (run_fnS (us := []) F hr hb (hx σ) I .nil h)
theorem ce_def0 {f : Addr} {fd : FuncData} {ps : List Str} {g : List U → Mem → Res U} {x : Str} {p pos : Pos} {j : Nat} (G : Good X W j) (F : FnOk X.prog X.w X.K X.mg X.base (L2.CX X.prog X.w) k f fd ps (spF X.K X.mg ps.length g))
    (hp : ∀ {E : L2.St → XK}, (∀ σ, PassesAt (L2.CX X.prog X.w) X σ (E σ)) → PE X (.Call (.Name x p) [] [] pos) (fun σ H Q => spF X.K X.mg ps.length g [] H Q (E σ))) :
    CE X W (.Call (.Name x p) [] [] pos) (fDef ps.length g aNil) := by
  intro ρ μ s σ H Q hs hm h
  refine ⟨_, hp (fun σ => passAt G.tk σ), ?_⟩
  have h1 : Post X W σ relV ρ H (if ([] : List U).length = ps.length then g [] μ else .bad) Q := h
  split at h1
  · rename_i hl
    refine ⟨hl, ρ, μ, [], .nil, hm, ?_⟩
    generalize g [] μ = z at h1
    cases z with
    | ok u m => exact fun v H' ρ' t r => h1 v H' ρ' t r
    | ex c m => exact fun cls H' ρ' t e => h1 cls H' ρ' t e
    | bad => exact h1
  · exact h1.elim

/-! ### a comprehension's frame -/
theorem Good.blk {s : Shared} {H : Hp} {scope : Scope} {cenv : Env} {fp : List Addr} (G : Good X W k) : Good (X.blk s H scope cenv fp) W0 k := ⟨G.calm, ⟨G.room.hd, G.room.dp, G.room.un⟩, takes0, PassesOwn.never⟩
end

/-! ### a def that is never well asked -/
theorem fn_bad {P : Program} {w : World} {K : PySem.W.Frag} {mg : Str → Option Value} {base : Heap} {CX : CXT} {k : Nat} {f : Addr} {fd : FuncData} {ps : List Str} : FnOk P w K mg base CX k f fd ps (spF K mg ps.length fun _ _ => .bad) := by
  have no : ∀ vs H Q E, ¬ spF K mg ps.length (fun _ _ => .bad) vs H Q E := fun vs H Q E ⟨_, _, _, _, _, _, h⟩ => h
  exact ⟨fun vs H Q E h => h.1, fun A outer s H args us vs Q E _ _ _ _ h => absurd h (no vs H Q E)⟩

/-! ### the end of a law -/
theorem end_of {K : PySem.W.Frag} {mg : Str → Option Value} {g : List U → Mem → Res U} {H : Hp} {a : Addr} {ns : List Int} (h : ∃ μ, g [.frl (ns.map U.int)] [] = .ok (.bl true) μ) (ho : Only H) (hS : SqL K H a (ns.map V.int)) :
    spF K mg 1 g [.ref a] H (fun v _ => v = .bl true) fun _ _ _ => False := by
  obtain ⟨μ, e⟩ := h
  have fr : FrL K H a (ns.map V.int) := by
    rcases hS with (h | ⟨o, h⟩) | h
    · rcases ho a with q | ⟨o, xs, q⟩ <;> (rw [h] at q; cases q)
    · exact .inl ⟨o, h⟩
    · exact .inr h
  refine ⟨rfl, [], [], [.frl (ns.map U.int)], .one (.frl fr (RepVs.ofInts ns)), ⟨rfl, List.nodup_nil, fun i c e => by simp at e⟩, ?_⟩
  rw [e]
  intro v H' ρ' _ r
  cases r
  rfl

/-! ### built-ins by name -/
theorem bt_len : bootBuiltins "len" = some (.builtin "len") := by decide +kernel
theorem bt_abs : bootBuiltins "abs" = some (.builtin "abs") := by decide +kernel
theorem bt_max : bootBuiltins "max" = some (.builtin "max") := by decide +kernel
theorem bt_min : bootBuiltins "min" = some (.builtin "min") := by decide +kernel
theorem bt_sum : bootBuiltins "sum" = some (.builtin "sum") := by decide +kernel
theorem bt_all : bootBuiltins "all" = some (.builtin "all") := by decide +kernel
theorem bt_any : bootBuiltins "any" = some (.builtin "any") := by decide +kernel
theorem bt_sorted : bootBuiltins "sorted" = some (.builtin "sorted") := by decide +kernel
theorem bt_isinstance : bootBuiltins "isinstance" = some (.builtin "isinstance") := by decide +kernel
theorem bt_int : bootBuiltins "int" = some (.type "int") := by decide +kernel
theorem bt_bool : bootBuiltins "bool" = some (.type "bool") := by decide +kernel
theorem bt_str : bootBuiltins "str" = some (.type "str") := by decide +kernel
theorem bt_list : bootBuiltins "list" = some (.type "list") := by decide +kernel
theorem bt_tuple : bootBuiltins "tuple" = some (.type "tuple") := by decide +kernel
theorem bt_dict : bootBuiltins "dict" = some (.type "dict") := by decide +kernel
theorem kt_int : ∀ t ∈ ["NoneType", "bool", "int", "str", "tuple", "list", "dict"], kitB t "int" = some (isTy "int" t) := by decide +kernel
theorem kt_bool : ∀ t ∈ ["NoneType", "bool", "int", "str", "tuple", "list", "dict"], kitB t "bool" = some (isTy "bool" t) := by decide +kernel
theorem kt_str : ∀ t ∈ ["NoneType", "bool", "int", "str", "tuple", "list", "dict"], kitB t "str" = some (isTy "str" t) := by decide +kernel
theorem kt_list : ∀ t ∈ ["NoneType", "bool", "int", "str", "tuple", "list", "dict"], kitB t "list" = some (isTy "list" t) := by decide +kernel
theorem kt_tuple : ∀ t ∈ ["NoneType", "bool", "int", "str", "tuple", "list", "dict"], kitB t "tuple" = some (isTy "tuple" t) := by decide +kernel
theorem kt_dict : ∀ t ∈ ["NoneType", "bool", "int", "str", "tuple", "list", "dict"], kitB t "dict" = some (isTy "dict" t) := by decide +kernel
end Dg
/-! Dg7: the head's facts for the mirror: constants by value, tables, defs. -/
namespace Dg
open PySem PySem.Spec PyProof.Rows L2 RZ

/-! ### a value of the written part is one of the mirror's -/
def repB (K : PySem.W.Frag) : Nat → Value → U → Bool
  | 0, _, _ => false
  | n + 1, v, u => match u with
    | .non => (match v with
      | .none => true
      | _ => false)
    | .bl b => (match v with
      | .bool c => decide (c = b)
      | _ => false)
    | .int i => (match v with
      | .int j _ => decide (j = i)
      | _ => false)
    | .str x => (match v with
      | .str y _ => decide (y = x) && PyData.strOk x
      | _ => false)
    | .tup us => (match v with
      | .ref a => (match K.lookup a with
        | some ⟨.type c, _, .seq its _, _⟩ => decide (c = "tuple") && (Nat.ble its.size 1000 && (decide (its.toList.length = us.length) && (its.toList.zip us).all fun p => repB K n p.1 p.2))
        | _ => false)
      | _ => false)
    | _ => false
def Reps (K : PySem.W.Frag) (v : Value) (u : U) : Prop := ∃ x, RelV x v ∧ ∀ H ρ, RepV K H ρ u x
theorem reps_all {K : PySem.W.Frag} {n : Nat} (ih : ∀ v u, repB K n v u = true → Reps K v u) : ∀ (its : List Value) (us : List U), its.length = us.length → ((its.zip us).all fun p => repB K n p.1 p.2) = true → ∃ vs, Vals vs its ∧ ∀ H ρ, RepVs K H ρ us vs
  | [], [], _, _ => ⟨[], .nil, fun _ _ => .nil⟩
  | [], _ :: _, h, _ => by simp at h
  | _ :: _, [], h, _ => by simp at h
  | v :: its, u :: us, h, q => by
    simp only [List.zip_cons_cons, List.all_cons, Bool.and_eq_true] at q
    obtain ⟨x, r1, r2⟩ := ih v u q.1
    obtain ⟨vs, s1, s2⟩ := reps_all ih its us (by simpa using h) q.2
    exact ⟨x :: vs, .cons r1 s1, fun H ρ => .cons (r2 H ρ) (s2 H ρ)⟩
theorem repB_ok {K : PySem.W.Frag} : ∀ (n : Nat) (v : Value) (u : U), repB K n v u = true → Reps K v u
  | 0, _, _, h => by simp [repB] at h
  | n + 1, v, u, h => by
    cases u with
    | non => cases v <;> first | exact ⟨.non, rfl, fun _ _ => .non⟩ | (simp [repB] at h)
    | bl b => cases v <;> first | (simp [repB] at h; subst h; exact ⟨.bl _, rfl, fun _ _ => .bl⟩) | (simp [repB] at h)
    | int i => cases v <;> first | (simp [repB] at h; subst h; exact ⟨.int _, ⟨_, rfl⟩, fun _ _ => .int⟩) | (simp [repB] at h)
    | str x => cases v <;> first | (simp [repB] at h; obtain ⟨h1, h2⟩ := h; subst h1; exact ⟨.str _, ⟨_, rfl⟩, fun _ _ => .str h2⟩) | (simp [repB] at h)
    | tup us =>
      cases v with
      | ref a =>
        simp only [repB] at h
        split at h
        · rename_i o c od its m sl e
          simp only [Bool.and_eq_true, decide_eq_true_eq] at h
          obtain ⟨h1, h2, h3, h4⟩ := h
          subst h1
          obtain ⟨vs, s1, s2⟩ := reps_all (fun v u q => repB_ok n v u q) its.toList us h3 h4
          refine ⟨.ref a, rfl, fun H ρ => .tup (.inr ⟨_, its, m, e, rfl, rfl, ?_, s1⟩) (s2 H ρ)⟩
          exact Nat.le_trans (Nat.le_of_ble_eq_true h2) (by decide)
        · cases h
      | _ => simp [repB] at h
    | ref i => simp [repB] at h
    | frl us => simp [repB] at h

/-! ### the facts -/
def keyN (e : DictEntry) : Option Str := match e.key with
  | .str x _ => some x
  | _ => none
def keysB (K : PySem.W.Frag) (a : Addr) (ks : List Str) : Bool := match K.lookup a with
  | some ⟨_, _, .dict es _, _⟩ => decide (es.toList.map keyN = ks.map some)
  | _ => false
inductive FaU where
  | con (x : Str) (u : U)
  | tab (x : Str) (kvs : List (Str × U))
  | isx (x y : Str) (b : Bool)
  | isv (x y : Str) (b : Bool)
  | keys (x : Str) (ks : List Str)
def exC (K : PySem.W.Frag) (D : Addr) : Bool := He.eqO (PySem.W.findIn K (.ref D) "__getattribute__") (some (some (.builtin "BaseException.__getattribute__"))) && (He.eqO (PySem.W.findIn K (.ref D) "__getattr__") (some none) &&
  (decide (PySem.W.subIn K (.ref D) (.type "BaseException") = some true) && (PySem.W.hasDictIn K D && (He.eqO (PySem.W.findIn K (.ref D) "__class__") (some (some (.builtin "object.__class__"))) &&
  (He.eqO (PySem.W.specialIn K (.builtin "object.__class__") "__get__") (some (some (.builtin "getset_descriptor.__get__"))) && (decide (PySem.W.takesIn K (.builtin "object.__class__") = some true) && decide (PySem.W.mroIn K D (.type "object") = some true)))))))
def FaU.ok (K : PySem.W.Frag) : FaU → Bool
  | .con x u => (match PySem.W.nsIn K mainGlobals x with
    | some (some v) => repB K 12 v u
    | _ => false)
  | .tab x kvs => kvs.all fun q => (match PySem.W.nsIn K (He.ga K x) q.1 with
    | some (some v) => repB K 12 v q.2
    | _ => false)
  | .isx x y b => exC K (He.ga K x) && decide (PySem.W.kitOne K (.ref (He.ga K x)) (.ref (He.ga K y)) = some b)
  | .isv x y b => exC K (He.ga K x) && decide (y = ("ValueError" : Str)) && decide (PySem.W.kitOne K (.ref (He.ga K x)) (.type "ValueError") = some b)
  | .keys x ks => keysB K (He.ga K x) ks
abbrev AlU : Type := He.AlT × Bool
def obsU (fa : List He.Fa) (fn : List He.DefD) (ts : List He.Tab) (fu : List FaU) (K : PySem.W.Frag) : AlU := (He.obsT fa fn ts K, fu.all fun f => f.ok K)
def valU' (fn : List He.DefD) (ts : List He.Tab) (w : World) : AlU := (He.valT fn ts w, true)
def SaysU (fa : List He.Fa) (fn : List He.DefD) (ts : List He.Tab) (fu : List FaU) (w : World) (K : PySem.W.Frag) : Prop := obsU fa fn ts fu K = valU' fn ts w
def obsUG (n : Nat) (fa : List He.Fa) (fn : List He.DefD) (ts : List He.Tab) (fu : List FaU) (g : Addr → Option Obj) : AlU := obsU fa fn ts fu (He.frG g (He.asD g n))
def hookU (n : Nat) (fa : List He.Fa) (fn : List He.DefD) (ts : List He.Tab) (fu : List FaU) : PySem.W.Hook where
  α := AlU
  obs := fun s => obsUG n fa fn ts fu s.heap.get?
  val := fun w => valU' fn ts w
  says := fun w h => ∃ K : PySem.W.Frag, K.In h ∧ SaysU fa fn ts fu w K
  of := fun _ _ e => ⟨_, He.frG_in, e⟩
  keeps := fun _ _ _ ⟨K, hK, c⟩ k => ⟨K, PySem.W.Frag.In.keeps hK k, c⟩
theorem obsUG_eq {n : Nat} {fa : List He.Fa} {fn : List He.DefD} {ts : List He.Tab} {fu : List FaU} {g : Addr → Option Obj} {s : Shared} (h : ∀ a, g a = s.heap.get? a) : obsUG n fa fn ts fu g = (hookU n fa fn ts fu).obs s := by
  have e : g = s.heap.get? := funext h
  rw [e] <;> rfl
section
variable {fa : List He.Fa} {fn : List He.DefD} {ts : List He.Tab} {fu : List FaU} {w : World} {K : PySem.W.Frag} {h : Heap} {mg : Str → Option Value}
theorem SaysU.t (c : SaysU fa fn ts fu w K) : He.SaysT fa fn ts w K := congrArg (fun z : AlU => z.1) c
theorem SaysU.f (c : SaysU fa fn ts fu w K) (i : Nat) {f : FaU} (hf : fu[i]? = some f := by rfl) : f.ok K = true := by
  have e : (fu.all fun f => f.ok K) = true := congrArg (fun z : AlU => z.2) c
  exact List.all_eq_true.mp e f (List.mem_of_getElem? hf)
theorem con_ok (X : K.In h) (G : h.Ns mainGlobals mg) {x : Str} {u : U} (c : (FaU.con x u).ok K = true) : GlobC K mg x u := by
  simp only [FaU.ok] at c
  cases e : PySem.W.nsIn K mainGlobals x with
  | none => rw [e] at c; cases c
  | some r =>
    rw [e] at c
    cases r with
    | none => cases c
    | some v =>
      obtain ⟨y, r1, r2⟩ := repB_ok 12 v u c
      exact ⟨v, y, PySem.W.mg_of X G e, r1, r2⟩
theorem tab_ok (X : K.In h) (G : h.Ns mainGlobals mg) {x : Str} {kvs : List (Str × U)} {es : Array DictEntry} {n : Nat} (c : (FaU.tab x kvs).ok K = true) (g : (He.Fa.glo x).ok K = true) (D : KDict K w (He.ga K x) es n) : KTab K mg w x kvs := by
  refine ⟨He.ga K x, He.glo_ok X G g, fun z u hz => ?_⟩
  have hm : (z, u) ∈ kvs := by
    clear c
    induction kvs with
    | nil => cases hz
    | cons p r ih =>
      rw [List.lookup_cons] at hz
      split at hz
      · rename_i e
        cases hz
        have e2 := beq_iff_eq.mp e
        subst e2
        exact List.mem_cons_self
      · exact List.mem_cons_of_mem _ (ih hz)
  simp only [FaU.ok] at c
  have q := List.all_eq_true.mp c (z, u) hm
  simp only at q
  cases e : PySem.W.nsIn K (He.ga K x) z with
  | none => rw [e] at q; cases q
  | some r =>
    rw [e] at q
    cases r with
    | none => cases q
    | some v =>
      obtain ⟨y, r1, r2⟩ := repB_ok 12 v u q
      exact ⟨y, ⟨es, n, v, D.at_, D.lit, e, r1⟩, r2⟩
end

/-! ### a def by its body, from such facts -/
abbrev FnP (K : PySem.W.Frag) (x : Str) (st : Stmt) (f : Addr) (fd : FuncData) : Prop := FunD K x x (defArgs st) (defBody st) (defScope st) [] [] f fd
theorem defD_ok {P : Program} {w : World} {K : PySem.W.Frag} {mg : Str → Option Value} {base : Heap} {x : Str} {st : Stmt} {f : Addr} {fd : FuncData} {N ps : List Str} {k : Nat} {body : FS} (F : FnP K x st f fd) (S : FnScope N ps (defScope st))
    (hb : ∀ (cdv : Value) (A : Around) (outer : List Env) (s : Shared) (H : Hp) (E : XK), Good (cxOf (L2.CX P w) P w K mg base N x (defScope st) f cdv A outer s H E) (fun cls d _ H => E cls d H) k →
      CSs (cxOf (L2.CX P w) P w K mg base N x (defScope st) f cdv A outer s H E) (fun cls d _ H => E cls d H) (defBody st) body) :
    FnOk P w K mg base (L2.CX P w) (k + 1) f fd ps (spF K mg ps.length (runDef N.length body)) := by
  refine F.ok S (fun vs H Q E h => h.1) (fun cdv A outer s H vs Q E hr h => ?_)
  obtain ⟨hl, ρ, μ, us, r, hm, hq⟩ := h
  have G : Good (cxOf (L2.CX P w) P w K mg base N x (defScope st) f cdv A outer s H E) (fun cls d _ H => E cls d H) k := ⟨rfl, hr, takes_of rfl rfl rfl rfl, passes_of rfl⟩
  refine hb cdv A outer s H E G ρ μ _ _ H _ (RepS.start r) hm ?_
  unfold runDef at hq
  cases e : body (us.map some ++ List.replicate (N.length - us.length) none) μ with
  | nx s' m => rw [e] at hq; exact fun σ' H' ρ' t _ => hq _ H' ρ' t .non
  | rt u m => rw [e] at hq; exact fun v H' ρ' t r => hq v H' ρ' t r
  | bk s' m => rw [e] at hq; exact hq.elim
  | ct s' m => rw [e] at hq; exact hq.elim
  | ex c s' m => rw [e] at hq; exact fun cls σ' H' ρ' t _ eq => hq cls H' ρ' t eq
  | bad => rw [e] at hq; exact hq.elim
/-- the end over a head by facts, what a def lets out told by the world -/
theorem walk_dg {l : PySem.W.OpenLaw} {n k : Nat} {q : Program} {loose : List Str} {XP : (Str → Option Value) → Heap → Prop} {YP : World → Heap → Prop} {d : DefRec} {CX : World → CXT} {x : Str}
    (hn : l.most = some n) (hl : n ≤ sizeLine) (hdf : d.params.defaults = []) (hr : Room k callerA) (hCX : ∀ (w : World) (H : Hp) (s : Shared) (e : Value) (s' : Shared), CX w [] H s (fun _ _ _ => False) e s' → False)
    (F : ∀ (w : World) (mg : Str → Option Value) (fa : Addr) (h : Heap), YP w h → h.Ns mainGlobals mg → mg d.name = some (.ref fa) → ∃ (K : PySem.W.Frag) (fd : FuncData) (sp : Sp), K.In h ∧
      (∀ (s : Shared) (u : Value), BindsTo s fd ⟨[u], []⟩ [(x, u)]) ∧ (∀ (H : Hp) (a : Addr) (ns : List Int), ns.length ≤ n → Only H → SqL K H a (ns.map V.int) → sp [.ref a] H (fun v _ => v = .bl true) fun _ _ _ => False) ∧
      ∀ base : Heap, K.In base → base.Ns mainGlobals mg → FnOk l.prog w K mg base (CX w) k fa fd [x] sp) :
    PySem.W.WalkO q loose XP YP l.row.toRowW d [] (fun f vs => PySem.call f vs) := by
  refine Att.attach_call hn hdf fun w s0 s1 mg mb fa o pm cd doc a vs ns G Y ho hd hcd hmg hob hi hle hg => ?_
  obtain ⟨K, fd, sp, KX, hb, hsp, hF⟩ := F w mg fa _ Y G.T.g hmg
  refine law_call KX G.T.g G.T.b G.T.builtins G.T.nolimit hg hob hi (Nat.le_trans hle hl) hr hF hb ?_ ?_
  · exact fun H hO hS => hsp H a ns hle hO hS
  · exact fun H e s' => hCX w H s1 e s'
theorem cx_none {P : Program} {w : World} (H : Hp) (s : Shared) (e : Value) (s' : Shared) (h : L2.CX P w [] H s (fun _ _ _ => False) e s') : False := by
  obtain ⟨_, _, _, _, _, _, _, _, _, _, _, _, z⟩ := h
  exact z.elim
end Dg
/-! Dg8: reckoning with mirrors: what is wanted behind an expression, a statement. -/
namespace Dg
open PySem PySem.Spec PyProof.Rows L2 RZ

def wpE {α : Type} (r : Res α) (Q : α → Mem → Prop) (E : Str → Mem → Prop) : Prop := match r with
  | .ok a μ => Q a μ
  | .ex c μ => E c μ
  | .bad => False
structure Dn where
  nx : Slots → Mem → Prop
  rt : U → Mem → Prop
  bk : Slots → Mem → Prop
  ct : Slots → Mem → Prop
  ex : Str → Slots → Mem → Prop
def wpS (o : Out) (D : Dn) : Prop := match o with
  | .nx s μ => D.nx s μ
  | .rt u μ => D.rt u μ
  | .bk s μ => D.bk s μ
  | .ct s μ => D.ct s μ
  | .ex c s μ => D.ex c s μ
  | .bad => False
section
variable {α β : Type} {s : Slots} {μ : Mem} {E : Str → Mem → Prop} {D : Dn}
theorem wpE.mono {r : Res α} {Q Q' : α → Mem → Prop} (h : wpE r Q E) (k : ∀ a μ', Q a μ' → Q' a μ') : wpE r Q' E := by
  cases r with
  | ok a m => exact k a m h
  | ex c m => exact h
  | bad => exact h
theorem wpE.get {r : Res α} {Q : α → Mem → Prop} (h : wpE r Q fun _ _ => False) : ∃ a μ', r = .ok a μ' ∧ Q a μ' := by
  cases r with
  | ok a m => exact ⟨a, m, rfl, h⟩
  | ex c m => exact h.elim
  | bad => exact h.elim
theorem wpE.of {r : Res α} {Q : α → Mem → Prop} {a : α} {μ' : Mem} (e : r = .ok a μ') (q : Q a μ') : wpE r Q E := by
  rw [e]; exact q
theorem wpS.mono {o : Out} {D D' : Dn} (h : wpS o D) (n : ∀ s μ, D.nx s μ → D'.nx s μ) (r : ∀ u μ, D.rt u μ → D'.rt u μ) (b : ∀ s μ, D.bk s μ → D'.bk s μ) (c : ∀ s μ, D.ct s μ → D'.ct s μ) (e : ∀ x s μ, D.ex x s μ → D'.ex x s μ) : wpS o D' := by
  cases o with
  | nx s m => exact n s m h
  | rt u m => exact r u m h
  | bk s m => exact b s m h
  | ct s m => exact c s m h
  | ex x s m => exact e x s m h
  | bad => exact h
theorem w_bind {r : Res α} {k : α → Mem → Res β} {Q : β → Mem → Prop} : wpE (r.bind k) Q E = wpE r (fun a μ => wpE (k a μ) Q E) E := by cases r <;> rfl
theorem w_var {i : Nat} {Q : U → Mem → Prop} : wpE (fVar i s μ) Q E = ∃ u, s[i]? = some (some u) ∧ Q u μ := by
  unfold fVar
  split
  · rename_i u e
    apply propext
    exact ⟨fun q => ⟨u, e, q⟩, fun ⟨w, e2, q⟩ => by rw [e] at e2; cases e2; exact q⟩
  · rename_i h
    apply propext
    exact ⟨fun q => q.elim, fun ⟨w, e2, q⟩ => absurd e2 (h w)⟩
theorem w_c {u : U} {Q : U → Mem → Prop} : wpE (fC u s μ) Q E = Q u μ := propext ⟨fun h => h, fun h => h⟩
theorem w_op {f : U → U → Mem → Res U} {a b : FE} {Q : U → Mem → Prop} : wpE (fOp f a b s μ) Q E = wpE (a s μ) (fun u μ1 => wpE (b s μ1) (fun w μ2 => wpE (f u w μ2) Q E) E) E := by
  unfold fOp; rw [w_bind]; congr 1; funext u μ1; rw [w_bind]
theorem w_res {α : Type} {o : Option α} {Q : α → Mem → Prop} : wpE (opt o μ) Q E = ∃ a, o = some a ∧ Q a μ := by
  cases o with
  | none => apply propext; exact ⟨fun h => h.elim, fun ⟨a, e, _⟩ => nomatch e⟩
  | some a => apply propext; exact ⟨fun h => ⟨a, rfl, h⟩, fun ⟨b, e, h⟩ => by cases e; exact h⟩
theorem w_resB {o : Option Bool} {Q : U → Mem → Prop} : wpE (Dg.resB o μ) Q E = ∃ b, o = some b ∧ Q (.bl b) μ := by
  cases o with
  | none => apply propext; exact ⟨fun h => h.elim, fun ⟨a, e, _⟩ => nomatch e⟩
  | some a => apply propext; exact ⟨fun h => ⟨a, rfl, h⟩, fun ⟨b, e, h⟩ => by cases e; exact h⟩
theorem w_eq {u w : U} {Q : U → Mem → Prop} : wpE (uEq u w μ) Q E = ∃ b, eqU u w μ = some b ∧ Q (.bl b) μ := w_resB
theorem w_ne {u w : U} {Q : U → Mem → Prop} : wpE (uNe u w μ) Q E = ∃ b, eqU u w μ = some b ∧ Q (.bl (!b)) μ := by
  unfold uNe; rw [w_resB]
  apply propext
  constructor
  · rintro ⟨b, e, q⟩
    cases h : eqU u w μ with
    | none => rw [h] at e; cases e
    | some c => rw [h] at e; cases e; exact ⟨c, rfl, q⟩
  · rintro ⟨b, e, q⟩
    exact ⟨!b, by rw [e]; rfl, q⟩
theorem w_in {u w : U} {Q : U → Mem → Prop} : wpE (uIn u w μ) Q E = ∃ b, inU u w μ = some b ∧ Q (.bl b) μ := w_resB
theorem w_nin {u w : U} {Q : U → Mem → Prop} : wpE (uNin u w μ) Q E = ∃ b, inU u w μ = some b ∧ Q (.bl (!b)) μ := by
  unfold uNin; rw [w_resB]
  apply propext
  constructor
  · rintro ⟨b, e, q⟩
    cases h : inU u w μ with
    | none => rw [h] at e; cases e
    | some c => rw [h] at e; cases e; exact ⟨c, rfl, q⟩
  · rintro ⟨b, e, q⟩
    exact ⟨!b, by rw [e]; rfl, q⟩
theorem eq_str {a b : Str} : eqU (.str a) (.str b) μ = some (decide (a = b)) := by
  have : eqU (.str a) (.str b) μ = some (PyData.eqv (.str a) (.str b)) := rfl
  rw [this]
  congr 1
theorem eq_int {a b : Int} : eqU (.int a) (.int b) μ = some (decide (a = b)) := by
  have : eqU (.int a) (.int b) μ = some (PyData.eqv (.int a) (.int b)) := rfl
  rw [this]
  congr 1
theorem w_addI {i j : Int} {Q : U → Mem → Prop} : wpE (uAdd (.int i) (.int j) μ) Q E = Q (.int (i + j)) μ := propext ⟨fun h => h, fun h => h⟩
theorem w_subI {i j : Int} {Q : U → Mem → Prop} : wpE (uSub (.int i) (.int j) μ) Q E = Q (.int (i - j)) μ := propext ⟨fun h => h, fun h => h⟩
theorem w_mulI {i j : Int} {Q : U → Mem → Prop} : wpE (uMul (.int i) (.int j) μ) Q E = ((big64 i || big64 j) = true ∧ Q (.int (i * j)) μ) := by
  show wpE (if (big64 i || big64 j) = true then _ else _) Q E = _
  split
  · rename_i h; simp [h, wpE]
  · rename_i h; simp [h, wpE]
theorem w_modI {i j : Int} {Q : U → Mem → Prop} : wpE (uMod (.int i) (.int j) μ) Q E = (j ≠ 0 ∧ Q (.int (i.fmod j)) μ) := by
  show wpE (if j ≠ 0 then _ else _) Q E = _
  split
  · rename_i h; simp [h, wpE]
  · rename_i h; simp [h, wpE]
theorem w_fdivI {i j : Int} {Q : U → Mem → Prop} : wpE (uFdiv (.int i) (.int j) μ) Q E = ((j ≠ 0 ∧ j.natAbs < 1073741824) ∧ Q (.int (i.fdiv j)) μ) := by
  show wpE (if j ≠ 0 ∧ j.natAbs < 1073741824 then _ else _) Q E = _
  split
  · rename_i h; simp [h, wpE]
  · rename_i h; simp only [h, wpE]; simp
theorem w_ltI {i j : Int} {Q : U → Mem → Prop} : wpE (uLt (.int i) (.int j) μ) Q E = Q (.bl (decide (i < j))) μ := propext ⟨fun h => h, fun h => h⟩
theorem w_leI {i j : Int} {Q : U → Mem → Prop} : wpE (uLe (.int i) (.int j) μ) Q E = Q (.bl (decide (i ≤ j))) μ := propext ⟨fun h => h, fun h => h⟩
theorem w_gtI {i j : Int} {Q : U → Mem → Prop} : wpE (uGt (.int i) (.int j) μ) Q E = Q (.bl (decide (j < i))) μ := propext ⟨fun h => h, fun h => h⟩
theorem w_geI {i j : Int} {Q : U → Mem → Prop} : wpE (uGe (.int i) (.int j) μ) Q E = Q (.bl (decide (j ≤ i))) μ := propext ⟨fun h => h, fun h => h⟩
/-! items -/
theorem w_ixT {us : List U} {i : Int} {Q : U → Mem → Prop} : wpE (ixU (.tup us) (.int i) μ) Q E = ∃ a, atI us i = some a ∧ Q a μ := w_res
theorem ix_L {r : Nat} {us : List U} {i : Int} (h : μ[r]? = some (.lst us)) : ixU (.ref r) (.int i) μ = opt (atI us i) μ := by
  unfold ixU dctU seqU
  simp only [h]
theorem w_ixL {r : Nat} {us : List U} {i : Int} {Q : U → Mem → Prop} (h : μ[r]? = some (.lst us)) : wpE (ixU (.ref r) (.int i) μ) Q E = ∃ a, atI us i = some a ∧ Q a μ := by rw [ix_L h, w_res]
theorem w_ixD {r : Nat} {kvs : List (Key × U)} {x : Str} {Q : U → Mem → Prop} (h : μ[r]? = some (.dct kvs)) : wpE (ixU (.ref r) (.str x) μ) Q E = ∃ a, valU kvs (.inr x) = some a ∧ Q a μ := by
  have : ixU (.ref r) (.str x) μ = opt (valU kvs (.inr x)) μ := by
    unfold ixU dctU
    simp only [h, keyU]
  rw [this, w_res]
/-! calls -/
theorem w_call {g : List U → Mem → Res U} {a : FA} {Q : U → Mem → Prop} : wpE (fCall g a s μ) Q E = wpE (a s μ) (fun us μ1 => wpE (g us μ1) Q E) E := w_bind
theorem w_def {n : Nat} {g : List U → Mem → Res U} {a : FA} {Q : U → Mem → Prop} : wpE (fDef n g a s μ) Q E = wpE (a s μ) (fun us μ1 => us.length = n ∧ wpE (g us μ1) Q E) E := by
  unfold fDef; rw [w_bind]; congr 1; funext us μ1
  split
  · rename_i h; simp [h]
  · rename_i h; simp [h, wpE]
theorem w_anil {Q : List U → Mem → Prop} : wpE (aNil s μ) Q E = Q [] μ := propext ⟨fun h => h, fun h => h⟩
theorem w_acons {a : FE} {r : FA} {Q : List U → Mem → Prop} : wpE (aCons a r s μ) Q E = wpE (a s μ) (fun u μ1 => wpE (r s μ1) (fun us μ2 => Q (u :: us) μ2) E) E := by
  unfold aCons; rw [w_bind]; congr 1; funext u μ1; rw [w_bind]; rfl
theorem w_tup {a : FA} {Q : U → Mem → Prop} : wpE (fTup a s μ) Q E = wpE (a s μ) (fun us μ1 => us.length ≤ lim ∧ Q (.tup us) μ1) E := by
  unfold fTup; rw [w_bind]; congr 1; funext us μ1
  split
  · rename_i h; simp [h, wpE]
  · rename_i h; simp [h, wpE]
theorem w_lst {a : FA} {Q : U → Mem → Prop} : wpE (fLst a s μ) Q E = wpE (a s μ) (fun us μ1 => us.length ≤ lim ∧ Q (.ref μ1.length) (μ1 ++ [.lst us])) E := by
  unfold fLst; rw [w_bind]; congr 1; funext us μ1
  split
  · rename_i h; simp [h, wpE]
  · rename_i h; simp [h, wpE]
theorem w_int {i : Int} {Q : U → Mem → Prop} : wpE (bInt [.int i] μ) Q E = Q (.int i) μ := propext ⟨fun h => h, fun h => h⟩
theorem w_intB {b : Bool} {Q : U → Mem → Prop} : wpE (bInt [.bl b] μ) Q E = Q (.int (if b then 1 else 0)) μ := propext ⟨fun h => h, fun h => h⟩
theorem w_lenT {us : List U} {Q : U → Mem → Prop} : wpE (bLen [.tup us] μ) Q E = Q (.int us.length) μ := propext ⟨fun h => h, fun h => h⟩
theorem w_lenL {r : Nat} {us : List U} {Q : U → Mem → Prop} (h : μ[r]? = some (.lst us)) : wpE (bLen [.ref r] μ) Q E = Q (.int us.length) μ := by
  have : bLen [.ref r] μ = .ok (.int us.length) μ := by unfold bLen lenU; simp only [h]
  rw [this]; rfl
theorem w_tupleL {r : Nat} {us : List U} {Q : U → Mem → Prop} (h : μ[r]? = some (.lst us)) : wpE (bTuple [.ref r] μ) Q E = Q (.tup us) μ := by
  have : bTuple [.ref r] μ = .ok (.tup us) μ := by unfold bTuple seqU; simp only [h]
  rw [this]; rfl
theorem w_dictD {r : Nat} {kvs : List (Key × U)} {Q : U → Mem → Prop} (h : μ[r]? = some (.dct kvs)) : wpE (bDict [.ref r] μ) Q E = Q (.ref μ.length) (μ ++ [.dct kvs]) := by
  have : bDict [.ref r] μ = .ok (.ref μ.length) (μ ++ [.dct kvs]) := by unfold bDict dctU; simp only [h]
  rw [this]; rfl
theorem w_d0 {Q : U → Mem → Prop} : wpE (fD0 s μ) Q E = Q (.ref μ.length) (μ ++ [.dct []]) := propext ⟨fun h => h, fun h => h⟩
theorem w_app {o : FE} {a : FA} {Q : U → Mem → Prop} {g : U → List U → Mem → Res U} : wpE (fMtL g o a s μ) Q E = wpE (o s μ) (fun u μ1 => ∃ us, lstU μ1 u = some us ∧ wpE (a s μ1) (fun us μ2 => wpE (g u us μ2) Q E) E) E := by
  unfold fMtL; rw [w_bind]; congr 1; funext u μ1
  cases e : lstU μ1 u with
  | none => simp [wpE]
  | some us => simp only [w_bind]; simp
theorem lstU_L {r : Nat} {us : List U} (h : μ[r]? = some (.lst us)) : lstU μ (.ref r) = some us := by unfold lstU; simp only [h]
theorem w_append {r : Nat} {us : List U} {w : U} {Q : U → Mem → Prop} (h : μ[r]? = some (.lst us)) (hl : us.length < lim) : wpE (gAppend (.ref r) [w] μ) Q E = Q .non (μ.set r (.lst (us ++ [w]))) := by
  have : gAppend (.ref r) [w] μ = .ok .non (μ.set r (.lst (us ++ [w]))) := by unfold gAppend; simp only [h, hl, if_true]
  rw [this]; rfl
theorem w_pop {r : Nat} {us : List U} {w : U} {Q : U → Mem → Prop} (h : μ[r]? = some (.lst (us ++ [w]))) : wpE (gPop (.ref r) [] μ) Q E = Q w (μ.set r (.lst us)) := by
  have : gPop (.ref r) [] μ = .ok w (μ.set r (.lst us)) := by
    unfold gPop
    simp only [h]
    simp
  rw [this]; rfl
theorem w_extT {r : Nat} {us ws : List U} {Q : U → Mem → Prop} (h : μ[r]? = some (.lst us)) (hl : us.length + ws.length ≤ lim) : wpE (gExt (.ref r) [.tup ws] μ) Q E = Q .non (μ.set r (.lst (us ++ ws))) := by
  have : gExt (.ref r) [.tup ws] μ = .ok .non (μ.set r (.lst (us ++ ws))) := by unfold gExt seqU; simp only [h, hl, if_true]
  rw [this]; rfl
/-! tests -/
theorem w_tstB {a : FE} {Q : Bool → Mem → Prop} : wpE (tstB a s μ) Q E = wpE (a s μ) (fun u μ1 => ∃ b, u = .bl b ∧ Q b μ1) E := by
  unfold tstB; rw [w_bind]; congr 1; funext u μ1
  cases u <;> simp [wpE]
theorem w_tst {a : FE} {Q : Bool → Mem → Prop} : wpE (tst a s μ) Q E = wpE (a s μ) (fun u μ1 => ∃ b, truU μ1 u = some b ∧ Q b μ1) E := by
  unfold tst; rw [w_bind]; congr 1; funext u μ1
  cases truU μ1 u <;> simp [wpE]
theorem w_nt {t : FT} {Q : Bool → Mem → Prop} : wpE (tNt t s μ) Q E = wpE (t s μ) (fun b μ1 => Q (!b) μ1) E := w_bind
theorem w_an {t u : FT} {Q : Bool → Mem → Prop} : wpE (tAn t u s μ) Q E = wpE (t s μ) (fun b μ1 => if b = true then wpE (u s μ1) Q E else Q false μ1) E := by
  unfold tAn; rw [w_bind]; congr 1; funext b μ1; cases b <;> simp [wpE]
theorem w_or {t u : FT} {Q : Bool → Mem → Prop} : wpE (tOr' t u s μ) Q E = wpE (t s μ) (fun b μ1 => if b = true then Q true μ1 else wpE (u s μ1) Q E) E := by
  unfold tOr'; rw [w_bind]; congr 1; funext b μ1; cases b <;> simp [wpE]
theorem w_all {Q : Bool → Mem → Prop} : wpE (tAll s μ) Q E = Q true μ := propext ⟨fun h => h, fun h => h⟩
theorem w_if {t : FT} {a b : FE} {Q : U → Mem → Prop} : wpE (fIf t a b s μ) Q E = wpE (t s μ) (fun c μ1 => if c = true then wpE (a s μ1) Q E else wpE (b s μ1) Q E) E := by
  unfold fIf; rw [w_bind]; congr 1; funext b μ1; cases b <;> simp
/-! statements -/
theorem w_ofR {r : Res α} {k : α → Mem → Out} : wpS (ofR r s k) D = wpE r (fun a μ => wpS (k a μ) D) (fun c μ => D.ex c s μ) := by cases r <;> rfl
theorem s_seq {a b : FS} : wpS (sSeq a b s μ) D = wpS (a s μ) { D with nx := fun s1 μ1 => wpS (b s1 μ1) D } := by
  unfold sSeq
  cases a s μ <;> rfl
theorem s_next : wpS (sNext s μ) D = D.nx s μ := propext ⟨fun h => h, fun h => h⟩
theorem s_brk : wpS (sBrk s μ) D = D.bk s μ := propext ⟨fun h => h, fun h => h⟩
theorem s_cnt : wpS (sCnt s μ) D = D.ct s μ := propext ⟨fun h => h, fun h => h⟩
theorem s_expr {a : FE} : wpS (sExpr a s μ) D = wpE (a s μ) (fun _ μ1 => D.nx s μ1) (fun c μ => D.ex c s μ) := w_ofR
theorem s_ret {a : FE} : wpS (sRet a s μ) D = wpE (a s μ) (fun u μ1 => D.rt u μ1) (fun c μ => D.ex c s μ) := w_ofR
theorem s_retN : wpS (sRetN s μ) D = D.rt .non μ := propext ⟨fun h => h, fun h => h⟩
theorem s_if {t : FT} {a b : FS} : wpS (sIf t a b s μ) D = wpE (t s μ) (fun c μ1 => if c = true then wpS (a s μ1) D else wpS (b s μ1) D) (fun c μ => D.ex c s μ) := by
  unfold sIf; rw [w_ofR]; congr 1; funext c μ1; cases c <;> simp
theorem s_asg {g : Tgt} {a : FE} : wpS (sAsg g a s μ) D = wpE (a s μ) (fun u μ1 => ∃ s1, setT g u s = some s1 ∧ D.nx s1 μ1) (fun c μ => D.ex c s μ) := by
  unfold sAsg; rw [w_ofR]; congr 1; funext u μ1
  cases setT g u s <;> simp [wpS]
theorem s_asg1 {i : Nat} {a : FE} : wpS (sAsg (.one i) a s μ) D = wpE (a s μ) (fun u μ1 => D.nx (s.set i (some u)) μ1) (fun c μ => D.ex c s μ) := by
  rw [s_asg]; congr 1; funext u μ1; simp [setT]
theorem s_store {o i a : FE} : wpS (sStore o i a s μ) D = wpE (a s μ) (fun u μ1 => wpE (o s μ1) (fun x μ2 => wpE (i s μ2) (fun y μ3 => ∃ μ4, stU x y u μ3 = some μ4 ∧ D.nx s μ4) (fun c μ => D.ex c s μ)) (fun c μ => D.ex c s μ)) (fun c μ => D.ex c s μ) := by
  unfold sStore; rw [w_ofR]; congr 1; funext u μ1; rw [w_ofR]; congr 1; funext x μ2; rw [w_ofR]; congr 1; funext y μ3
  cases stU x y u μ3 <;> simp [wpS]
theorem stU_D {r : Nat} {kvs : List (Key × U)} {x : Str} {u : U} (h : μ[r]? = some (.dct kvs)) (hl : kvs.length < lim) : stU (.ref r) (.str x) u μ = some (μ.set r (.dct (putU kvs (.inr x) u))) := by
  unfold stU; simp only [h, keyU, hl, if_true]
theorem stU_L {r j : Nat} {us : List U} {i : Int} {u : U} (h : μ[r]? = some (.lst us)) (hj : ixN us.length i = some j) : stU (.ref r) (.int i) u μ = some (μ.set r (.lst (us.set j u))) := by
  unfold stU; simp only [h, hj]
/-- a def's run -/
theorem w_run {n : Nat} {body : FS} {us : List U} {Q : U → Mem → Prop} : wpE (runDef n body us μ) Q E = wpS (body (us.map some ++ List.replicate (n - us.length) none) μ) ⟨fun _ μ' => Q .non μ', Q, fun _ _ => False, fun _ _ => False, fun c _ μ' => E c μ'⟩ := by
  unfold runDef
  cases body (us.map some ++ List.replicate (n - us.length) none) μ <;> rfl

/-! ### loops -/
theorem w_for {it : FI} {g : Tgt} {b : FS} : wpS (sFor it g b s μ) D = wpE (it s μ) (fun j μ1 => wpS (sForGo g b fuelF j 0 s μ1) D) (fun c μ => D.ex c s μ) := w_ofR
/-- a for by what holds at each turn -/
theorem for_by {j : IterU} {g : Tgt} {b : FS} (I : Nat → Slots → Mem → Prop) (n : Nat) (hb : ∀ i s μ, I i s μ → i ≤ n)
    (step : ∀ i s μ, I i s μ → (itemAt j i μ = some none ∧ D.nx s μ) ∨ ∃ u s1, itemAt j i μ = some (some u) ∧ setT g u s = some s1 ∧ wpS (b s1 μ) ⟨I (i + 1), D.rt, D.nx, I (i + 1), D.ex⟩) :
    ∀ (f i : Nat) (s : Slots) (μ : Mem), n < f + i → I i s μ → wpS (sForGo g b f j i s μ) D
  | 0, i, s, μ, hf, h => by
    have := hb i s μ h
    omega
  | f + 1, i, s, μ, hf, h => by
    rcases step i s μ h with ⟨e, q⟩ | ⟨u, s1, e, e2, q⟩
    · simp only [sForGo, e]; exact q
    · simp only [sForGo, e, e2]
      cases eb : b s1 μ with
      | nx s2 μ2 => rw [eb] at q; exact for_by I n hb step f (i + 1) s2 μ2 (by omega) q
      | ct s2 μ2 => rw [eb] at q; exact for_by I n hb step f (i + 1) s2 μ2 (by omega) q
      | bk s2 μ2 => rw [eb] at q; exact q
      | rt u m2 => rw [eb] at q; exact q
      | ex c2 u m2 => rw [eb] at q; exact q
      | bad => rw [eb] at q; exact q
theorem for_go {j : IterU} {g : Tgt} {b : FS} (I : Nat → Slots → Mem → Prop) (n : Nat) (hn : n < 1000000) (h0 : I 0 s μ) (hb : ∀ i s μ, I i s μ → i ≤ n)
    (step : ∀ i s μ, I i s μ → (itemAt j i μ = some none ∧ D.nx s μ) ∨ ∃ u s1, itemAt j i μ = some (some u) ∧ setT g u s = some s1 ∧ wpS (b s1 μ) ⟨I (i + 1), D.rt, D.nx, I (i + 1), D.ex⟩) : wpS (sForGo g b fuelF j 0 s μ) D :=
  for_by I n hb step fuelF 0 s μ (by unfold fuelF; omega) h0
/-- a while by a measure -/
theorem while_by' {t : FT} {b : FS} (I : Nat → Slots → Mem → Prop)
    (step : ∀ m s μ, I m s μ → wpE (t s μ) (fun c μ1 => if c = true then ∃ m', m = m' + 1 ∧ wpS (b s μ1) ⟨I m', D.rt, D.nx, I m', D.ex⟩ else D.nx s μ1) (fun c μ => D.ex c s μ)) :
    ∀ (f m : Nat) (s : Slots) (μ : Mem), m < f → I m s μ → wpS (sWhile t b f s μ) D
  | 0, m, s, μ, hf, h => by omega
  | f + 1, m, s, μ, hf, h => by
    have q := step m s μ h
    simp only [sWhile, w_ofR]
    refine wpE.mono q fun c μ1 hc => ?_
    cases c with
    | false => simpa [wpS] using hc
    | true =>
      simp only [if_true] at hc
      obtain ⟨m', rfl, q2⟩ := hc
      cases eb : b s μ1 with
      | nx s2 μ2 => rw [eb] at q2; exact while_by' I step f m' s2 μ2 (by omega) q2
      | ct s2 μ2 => rw [eb] at q2; exact while_by' I step f m' s2 μ2 (by omega) q2
      | bk s2 μ2 => rw [eb] at q2; exact q2
      | rt u m2 => rw [eb] at q2; exact q2
      | ex c2 u m2 => rw [eb] at q2; exact q2
      | bad => rw [eb] at q2; exact q2
theorem while_go {t : FT} {b : FS} (I : Nat → Slots → Mem → Prop) {m : Nat} (hm : m < 1000000) (h0 : I m s μ)
    (step : ∀ m s μ, I m s μ → wpE (t s μ) (fun c μ1 => if c = true then ∃ m', m = m' + 1 ∧ wpS (b s μ1) ⟨I m', D.rt, D.nx, I m', D.ex⟩ else D.nx s μ1) (fun c μ => D.ex c s μ)) : wpS (sWhile t b fuelF s μ) D :=
  while_by' I step fuelF m s μ (by unfold fuelF; omega) h0
/-- a comprehension by what holds at each turn -/
theorem w_lc {it : FI} {own : List Nat} {g : Tgt} {t : FT} {e : FE} {Q : U → Mem → Prop} : wpE (fLc it own g t e s μ) Q E = wpE (it s μ) (fun j μ1 => wpE (lcGo j own g t e s μ1.length fuelF 0 (μ1 ++ [.lst []])) Q E) E := w_bind
theorem lc_by {j : IterU} {own : List Nat} {g : Tgt} {t : FT} {e : FE} {d : Nat} {Q : U → Mem → Prop} (I : Nat → Mem → Prop) (n : Nat) (hb : ∀ i μ, I i μ → i ≤ n)
    (step : ∀ i μ, I i μ → (itemAt j i μ = some none ∧ Q (.ref d) μ) ∨ ∃ u s1, itemAt j i μ = some (some u) ∧ setT g u (wipeU s own) = some s1 ∧
      wpE (t s1 μ) (fun b μ3 => if b = true then wpE (e s1 μ3) (fun v μ4 => ∃ acc, μ4[d]? = some (.lst acc) ∧ acc.length < lim ∧ I (i + 1) (μ4.set d (.lst (acc ++ [v])))) (fun _ _ => False) else I (i + 1) μ3) (fun _ _ => False)) :
    ∀ (f i : Nat) (μ : Mem), n < f + i → I i μ → wpE (lcGo j own g t e s d f i μ) Q E
  | 0, i, μ, hf, h => by
    have := hb i μ h
    omega
  | f + 1, i, μ, hf, h => by
    rcases step i μ h with ⟨e0, q⟩ | ⟨u, s1, e0, e2, q⟩
    · simp only [lcGo, e0]; exact q
    · simp only [lcGo, e0, e2]
      cases et : t s1 μ with
      | ex c m => rw [et] at q; exact q.elim
      | bad => rw [et] at q; exact q.elim
      | ok b μ3 =>
        rw [et] at q
        cases b with
        | false => exact lc_by I n hb step f (i + 1) μ3 (by omega) q
        | true =>
          have q' : wpE (e s1 μ3) (fun v μ4 => ∃ acc, μ4[d]? = some (.lst acc) ∧ acc.length < lim ∧ I (i + 1) (μ4.set d (.lst (acc ++ [v])))) (fun _ _ => False) := q
          cases ee : e s1 μ3 with
          | ex c m => rw [ee] at q'; exact q'.elim
          | bad => rw [ee] at q'; exact q'.elim
          | ok v μ4 =>
            rw [ee] at q'
            obtain ⟨acc, a1, a2, a3⟩ := q'
            simp only [ee, a1, a2, if_true]
            exact lc_by I n hb step f (i + 1) _ (by omega) a3
theorem lc_go {j : IterU} {own : List Nat} {g : Tgt} {t : FT} {e : FE} {d : Nat} {Q : U → Mem → Prop} (I : Nat → Mem → Prop) (n : Nat) (hn : n < 1000000) (h0 : I 0 μ) (hb : ∀ i μ, I i μ → i ≤ n)
    (step : ∀ i μ, I i μ → (itemAt j i μ = some none ∧ Q (.ref d) μ) ∨ ∃ u s1, itemAt j i μ = some (some u) ∧ setT g u (wipeU s own) = some s1 ∧
      wpE (t s1 μ) (fun b μ3 => if b = true then wpE (e s1 μ3) (fun v μ4 => ∃ acc, μ4[d]? = some (.lst acc) ∧ acc.length < lim ∧ I (i + 1) (μ4.set d (.lst (acc ++ [v])))) (fun _ _ => False) else I (i + 1) μ3) (fun _ _ => False)) :
    wpE (lcGo j own g t e s d fuelF 0 μ) Q E := lc_by I n hb step fuelF 0 μ (by unfold fuelF; omega) h0
/-! what is walked -/
theorem w_iseqT {a : FE} {Q : IterU → Mem → Prop} : wpE (iSeq a s μ) Q E = wpE (a s μ) (fun u μ1 => match u with
  | .tup us => Q (.seq us) μ1
  | .frl us => Q (.seq us) μ1
  | .str z => Q (.seq (signsU z)) μ1
  | .ref r => ∃ us, listAt μ1 r = some us ∧ Q (.live r) μ1
  | _ => False) E := by
  unfold iSeq; rw [w_bind]; congr 1; funext u μ1
  cases u with
  | ref r =>
    simp only
    cases listAt μ1 r <;> simp [wpE]
  | _ => rfl
theorem w_rg1 {a : FE} {Q : IterU → Mem → Prop} : wpE (iRg1 a s μ) Q E = wpE (a s μ) (fun u μ1 => ∃ n, u = .int n ∧ okR n = true ∧ Q (.rng 0 1 n.toNat) μ1) E := by
  unfold iRg1; rw [w_bind]; congr 1; funext u μ1
  cases u with
  | int n =>
    simp only
    split
    · rename_i h; simp [h, wpE]
    · rename_i h; simp [h, wpE]
  | _ => simp [wpE]
theorem w_rev1 {a : FE} {Q : IterU → Mem → Prop} : wpE (iRev1 a s μ) Q E = wpE (a s μ) (fun u μ1 => ∃ n, u = .int n ∧ okR n = true ∧ Q (.rng (n.toNat - 1) (-1) n.toNat) μ1) E := by
  unfold iRev1; rw [w_bind]; congr 1; funext u μ1
  cases u with
  | int n =>
    simp only
    split
    · rename_i h; simp [h, wpE]
    · rename_i h; simp [h, wpE]
  | _ => simp [wpE]
theorem listAt_L {r : Nat} {us : List U} (h : μ[r]? = some (.lst us)) : listAt μ r = some us := by unfold listAt; simp only [h]
theorem item_live {r i : Nat} {us : List U} (h : μ[r]? = some (.lst us)) : itemAt (.live r) i μ = some us[i]? := by
  simp only [itemAt, listAt_L h]; rfl
theorem item_rng {lo c : Int} {n i : Nat} : itemAt (.rng lo c n) i μ = some (if i < n then some (.int (lo + (i : Int) * c)) else none) := rfl
theorem item_seq {us : List U} {i : Nat} : itemAt (.seq us) i μ = some us[i]? := rfl
end
/-! ### places -/
theorem atI_nat {α : Type} {xs : List α} (n : Nat) : atI xs (n : Int) = xs[n]? := by
  unfold L2.atI L2.ixN
  rw [if_pos (by omega)]
  by_cases h : n < xs.length
  · rw [if_pos (by omega)]
    simp
  · rw [if_neg (by omega)]
    simp
    omega
theorem atI_0 {α : Type} {x : α} {xs : List α} : atI (x :: xs) 0 = some x := atI_nat (xs := x :: xs) 0
theorem atI_1 {α : Type} {x y : α} {xs : List α} : atI (x :: y :: xs) 1 = some y := atI_nat (xs := x :: y :: xs) 1
theorem atI_2 {α : Type} {x y z : α} {xs : List α} : atI (x :: y :: z :: xs) 2 = some z := atI_nat (xs := x :: y :: z :: xs) 2
theorem atI_3 {α : Type} {x y z a : α} {xs : List α} : atI (x :: y :: z :: a :: xs) 3 = some a := atI_nat (xs := x :: y :: z :: a :: xs) 3
theorem atI_4 {α : Type} {x y z a b : α} {xs : List α} : atI (x :: y :: z :: a :: b :: xs) 4 = some b := atI_nat (xs := x :: y :: z :: a :: b :: xs) 4
theorem atI_5 {α : Type} {x y z a b c : α} {xs : List α} : atI (x :: y :: z :: a :: b :: c :: xs) 5 = some c := atI_nat (xs := x :: y :: z :: a :: b :: c :: xs) 5
theorem atI_in {α : Type} {xs : List α} {i : Int} (h0 : 0 ≤ i) (h1 : i < xs.length) : ∃ a, atI xs i = some a ∧ a ∈ xs := by
  obtain ⟨j, rfl⟩ := Int.eq_ofNat_of_zero_le h0
  have hl : j < xs.length := by omega
  exact ⟨xs[j], (atI_nat j).trans (List.getElem?_eq_getElem hl), List.getElem_mem _⟩
theorem fmod_in {x m : Int} (h : 0 < m) : 0 ≤ x.fmod m ∧ x.fmod m < m := by
  rw [Int.fmod_eq_emod_of_nonneg _ (by omega)]
  exact ⟨Int.emod_nonneg _ (by omega), Int.emod_lt_of_pos _ h⟩
/-! ### memories that grow -/
/-- all but the cell s stays -/
structure Gr (s : Nat) (μ μ' : Mem) : Prop where
  le : μ.length ≤ μ'.length
  at_ : ∀ i, i < μ.length → i ≠ s → μ'[i]? = μ[i]?
theorem Gr.refl {s : Nat} {μ : Mem} : Gr s μ μ := ⟨Nat.le_refl _, fun _ _ _ => rfl⟩
theorem Gr.trans {s : Nat} {a b c : Mem} (h : Gr s a b) (g : Gr s b c) : Gr s a c := ⟨Nat.le_trans h.le g.le, fun i hi hs => (g.at_ i (Nat.lt_of_lt_of_le hi h.le) hs).trans (h.at_ i hi hs)⟩
theorem Gr.get {s i : Nat} {μ μ' : Mem} {c : Cell} (g : Gr s μ μ') (h : μ[i]? = some c) (hs : i ≠ s) : μ'[i]? = some c := (g.at_ i (List.getElem?_eq_some_iff.mp h).1 hs).trans h
theorem Gr.snoc {s : Nat} {μ : Mem} {c : Cell} : Gr s μ (μ ++ [c]) := ⟨by simp, fun i hi _ => List.getElem?_append_left hi⟩
theorem Gr.set {s : Nat} {μ : Mem} {c : Cell} : Gr s μ (μ.set s c) := ⟨by simp, fun i _ hs => List.getElem?_set_ne (Ne.symm hs)⟩
/-- a cell of the new part changes -/
theorem Gr.put {s i : Nat} {μ μ' : Mem} {c : Cell} (g : Gr s μ μ') (h : μ.length ≤ i) : Gr s μ (μ'.set i c) := ⟨by simpa using g.le, fun j hj hs => by
  rw [List.getElem?_set_ne (by omega)]; exact g.at_ j hj hs⟩
theorem get_snoc {μ : Mem} {c : Cell} : (μ ++ [c])[μ.length]? = some c := by simp
theorem get_set {μ : Mem} {i : Nat} {c d : Cell} (h : μ[i]? = some d) : (μ.set i c)[i]? = some c := List.getElem?_set_self (List.getElem?_eq_some_iff.mp h).1
theorem get_set_ne {μ : Mem} {i j : Nat} {c d : Cell} (h : μ[j]? = some d) (ne : i ≠ j) : (μ.set i c)[j]? = some d := (List.getElem?_set_ne ne).trans h
theorem get_snoc_lt {μ : Mem} {i : Nat} {c d : Cell} (h : μ[i]? = some d) : (μ ++ [c])[i]? = some d := (List.getElem?_append_left (List.getElem?_eq_some_iff.mp h).1).trans h
theorem get_lt {μ : Mem} {i : Nat} {d : Cell} (h : μ[i]? = some d) : i < μ.length := (List.getElem?_eq_some_iff.mp h).1
end Dg
/-! Dg9: raise of an own exception, texts with places, try with one clause without a name. -/
namespace Dg
open PySem PySem.Spec PyProof.Rows L2 RZ
section
variable {X : Cx} {W : WX} {k : Nat}
/-! ### raise C(e) -/
def sRaise (c : Str) (m : FE) : FS := fun s μ => ofR (m s μ) s fun _ μ1 => .ex c s μ1
theorem cs_raise {C : Addr} {bmB : List Value} {B newId initId : String} {x : Str} {e : Expr} {me : FE} {p pos pos' : Pos} (G : Good X W k) (F : ExcBaseFacts B newId initId bmB) (q : PySem.W.excIn X.K C bmB newId = true) (gC : X.mg x = some (.ref C))
    (kC : PySem.W.keepIn X.K (.ref C) = true) (r : Raises X (.ref C)) (hg : Gl X x) (he : CE X W e me) (hst : starEach [e] X.env = (false, eval e X.env) :: starEach [] X.env := by rfl) (hdb : (x == ("__debug__" : Str)) = false := by decide) :
    CS X W (.Raise (some (.Call (.Name x p) [e] [] pos)) none pos') (sRaise x me) := by
  intro ρ μ s σ H D hs hm h
  refine ⟨_, ps_raise G.calm G.tk (SkE.pmk_own1 F q gC kC r hg pe_w hst hdb), ?_⟩
  exact he ρ μ s σ H _ hs hm (PostS.bind hs h fun u μ1 x1 H1 ρ1 t1 r1 h1 => h1 (.ref C) σ H1 ρ1 (Stp.refl t1.mem) (t1.s hs) gC)
/-! ### f'..{e}..' -/
def fFmt (a : FE) : FE := fun s μ => (a s μ).bind fun u μ1 => match u with
  | .str y => if y.length ≤ lim then .ok (.str y) μ1 else .bad
  | .int i => if i.natAbs.log2 < 1920 ∧ PyData.strOk (toString i : Str) = true then .ok (.str (toString i)) μ1 else .bad
  | _ => .bad
theorem ce_fmt {e : Expr} {me : FE} {pos : Pos} (he : CE X W e me) : CE X W (.FormattedValue e (-1) none pos) (fFmt me) := by
  intro ρ μ s σ H Q hs hm h
  refine ⟨_, pe_fmt pe_w, ?_⟩
  refine he ρ μ s σ H _ hs hm (h.bind fun u μ1 x H1 ρ1 t1 r1 h1 => ?_)
  cases u with
  | str y =>
    cases r1 with
    | str ok =>
      simp only at h1
      split at h1
      · rename_i hl
        exact .inl ⟨y, rfl, lim_le hl, h1.ok (Stp.refl t1.mem) (.str ok)⟩
      · exact h1.elim
  | int i =>
    cases r1
    simp only at h1
    split at h1
    · rename_i hl
      exact .inr ⟨i, rfl, hl.1, h1.ok (Stp.refl t1.mem) (.str hl.2)⟩
    · exact h1.elim
  | _ => exact h1.elim
def fJs : List FE → Str → FE
  | [], acc => fun _ μ => .ok (.str acc) μ
  | p :: ps, acc => fun s μ => (p s μ).bind fun u μ1 => match u with
    | .str y => if (acc ++ y).length ≤ lim then fJs ps (acc ++ y) s μ1 else .bad
    | _ => .bad
inductive CJ (X : Cx) (W : WX) : List Expr → List FE → Prop
  | nil : CJ X W [] []
  | cons {e : Expr} {m : FE} {es : List Expr} {ms : List FE} (h : CE X W e m) (r : CJ X W es ms) : CJ X W (e :: es) (m :: ms)
theorem pj_all : ∀ es : List Expr, PJ X es (es.map (WE X))
  | [] => .nil
  | _ :: es => .cons pe_w (pj_all es)
theorem tjs_of {es : List Expr} {ms : List FE} (h : CJ X W es ms) : ∀ (acc : Str) (ρ : List Addr) (μ : Mem) (s : Slots) (σ : L2.St) (H : Hp) (Q : Str → Hp → Prop), PyData.strOk acc = true → RepS X.K H ρ s σ → RepM X.K H ρ μ →
    Post X W σ relV ρ H (fJs ms acc s μ) (fun v H1 => ∃ y, v = .str y ∧ Q y H1) → tJs (es.map (WE X)) acc σ H Q := by
  induction h with
  | nil =>
    intro acc ρ μ s σ H Q ok hs hm h
    obtain ⟨y, e, q⟩ := h.ok (Stp.refl hm) (.str ok)
    cases e
    exact q
  | @cons e m es ms he r ih =>
    intro acc ρ μ s σ H Q ok hs hm h
    refine he ρ μ s σ H _ hs hm (h.bind fun u μ1 x H1 ρ1 t1 r1 h1 => ?_)
    cases u with
    | str y =>
      cases r1 with
      | str oy =>
        simp only at h1
        split at h1
        · rename_i hl
          exact ⟨y, rfl, lim_le hl, ih (acc ++ y) ρ1 μ1 s σ H1 Q (strOk_append ok oy) (t1.s hs) t1.mem h1⟩
        · exact h1.elim
    | _ => exact h1.elim
theorem fJs_str : ∀ {ms : List FE} {acc : Str} {s : Slots} {μ m : Mem} {u : U}, fJs ms acc s μ = .ok u m → ∃ y, u = .str y
  | [], acc, s, μ, m, u, h => by cases h; exact ⟨acc, rfl⟩
  | p :: ps, acc, s, μ, m, u, h => by
    unfold fJs at h
    cases e : p s μ with
    | ok w m1 =>
      rw [e] at h
      simp only [Res.bind] at h
      split at h
      · split at h
        · exact fJs_str h
        · cases h
      · cases h
    | ex c m1 => rw [e] at h; cases h
    | bad => rw [e] at h; cases h
theorem ce_joined {e1 e2 : Expr} {es : List Expr} {ms : List FE} {pos : Pos} (h : CJ X W (e1 :: e2 :: es) ms) : CE X W (.JoinedStr (e1 :: e2 :: es) pos) (fJs ms Str.empty) := by
  intro ρ μ s σ H Q hs hm q
  refine ⟨_, pe_joined (pj_all _), ?_⟩
  refine tjs_of h Str.empty ρ μ s σ H _ (by decide +kernel) hs hm ?_
  cases z : fJs ms Str.empty s μ with
  | ok u m =>
    rw [z] at q
    obtain ⟨y, rfl⟩ := fJs_str z
    intro v H' ρ' t r
    have r' := r
    cases r' with
    | str _ => exact ⟨y, rfl, q _ H' ρ' t r⟩
  | ex c m => rw [z] at q; exact q
  | bad => rw [z] at q; exact q
theorem ce_joined1 {e : Expr} {me : FE} {pos : Pos} (he : CE X W e me) : CE X W (.JoinedStr [e] pos) me := by
  intro ρ μ s σ H Q hs hm q
  exact ⟨_, pe_joined1 pe_w, he ρ μ s σ H Q hs hm q⟩
/-! ### try .. except C -/
def sTry (tab : List (Str × Bool)) (body suite : FS) : FS := fun s μ => match body s μ with
  | .ex c s1 μ1 => match tab.lookup c with
    | some true => suite s1 μ1
    | some false => .ex c s1 μ1
    | none => .bad
  | o => o
theorem cs_try {x : Str} {c : Value} {body suite : List Stmt} {b₀ : Stmt} {np pos pos' : Pos} {tab : List (Str × Bool)} {mb ms : FS} (hst : X.stack = X.env :: X.outer) (hfr : X.env.frame = some X.env.locals) (hc : Names X x c) (G : Good X W k)
    (htab : ∀ (n : Str) (b : Bool) (cls : Value), tab.lookup n = some b → X.mg n = some cls → PySem.W.exmOne X.K cls c = some b)
    (hb : ∀ (W' : WX) (pn : List (Addr × Obj)) (xe : Value → Shared → Prop), Takes (X.tr pn xe) W' → PassesOwn (model X.prog X.w) X.A X.env xe → CSs (X.tr pn xe) W' body mb)
    (hsu : ∀ (a : Addr) (oe : Obj) (cls : Value) (d : Option Addr) (pn : List (Addr × Obj)), Zc cls d oe → (∃ vs, oe.data = .fields vs) → CSs (X.suite a ((a, oe) :: pn)) W (b₀ :: suite) ms) :
    CS X W (.Try body [.ExceptHandler (some (.Name x np)) none (b₀ :: suite) pos'] [] [] pos) (sTry tab mb ms) := by
  intro ρ μ s σ H D hs hm h
  refine ⟨_, ps_try_only hst hfr hc (Wout := W) (tb := fun W' D σ H => ∀ pn xe, Takes (X.tr pn xe) W' → PassesOwn (model X.prog X.w) X.A X.env xe → WSs (X.tr pn xe) body D σ H)
    (ts := fun a cls d D σ H => ∀ oe pn, Zc cls d oe → (∃ vs, oe.data = .fields vs) → WSs (X.suite a ((a, oe) :: pn)) (b₀ :: suite) D σ H) G.tk
    (fun W' pn xe tk' po => ⟨fun pins s σ H D I h => pss_w.run pins s σ H D I (h pn xe tk' po)⟩) (fun a oe cls d pn hz hf => ⟨fun pins s σ H D I h => pss_w.run pins s σ H D I (h oe pn hz hf)⟩), ?_⟩
  intro pn xe tk' po
  refine hb _ pn xe tk' po ρ μ s σ H D hs hm ?_
  unfold sTry at h
  cases e : mb s μ with
  | nx s1 m1 => rw [e] at h; exact h
  | rt u m1 => rw [e] at h; exact h
  | bk s1 m1 => rw [e] at h; exact h
  | ct s1 m1 => rw [e] at h; exact h
  | bad => rw [e] at h; exact h
  | ex c' s1 m1 =>
    rw [e] at h
    simp only at h
    intro cls σ' H' ρ' t r em
    cases hl : tab.lookup c' with
    | none => rw [hl] at h; exact h.elim
    | some b =>
      rw [hl] at h
      refine ⟨b, htab c' b cls hl em, ?_, ?_⟩
      · rintro rfl a ha oe pn2 hz hf
        exact hsu a oe cls none pn2 hz hf ρ' m1 s1 σ' H' D r t.mem (PostS.from t h)
      · rintro rfl
        exact h cls σ' H' ρ' t r em
/-! ### own exceptions, by facts of the head -/
def Exn (K : PySem.W.Frag) (mg : Str → Option Value) (x : Str) : Prop := ∃ C : Addr, mg x = some (.ref C) ∧ PySem.W.excIn K C He.veBase "ValueError.__new__" = true ∧ PySem.W.keepIn K (.ref C) = true ∧
  PySem.W.subIn K (.ref C) (.type "BaseException") = some true ∧ PySem.W.typeIn K (.ref C) = some (.type "type")
theorem exn_ok {K : PySem.W.Frag} {h : Heap} {mg : Str → Option Value} (KX : K.In h) (N : h.Ns mainGlobals mg) {x : Str} (c1 : (He.Fa.glo x).ok K = true) (c2 : (He.Fa.exc x).ok K = true) : Exn K mg x :=
  ⟨He.ga K x, He.glo_ok KX N c1, He.exc_ok c2⟩
theorem cs_raiseN {x : Str} {e : Expr} {me : FE} {p pos pos' : Pos} (G : Good X W k) (h : Exn X.K X.mg x) (hg : Gl X x) (he : CE X W e me) (hst : starEach [e] X.env = (false, eval e X.env) :: starEach [] X.env := by rfl)
    (hdb : (x == ("__debug__" : Str)) = false := by decide) : CS X W (.Raise (some (.Call (.Name x p) [e] [] pos)) none pos') (sRaise x me) := by
  obtain ⟨C, h1, h2, h3, h4, h5⟩ := h
  exact cs_raise G PySem.F.excBase_ValueError h2 h1 h3 (raises_own h4 h5) hg he hst hdb
def Exm (K : PySem.W.Frag) (mg : Str → Option Value) (x y : Str) (b : Bool) : Prop := ∃ Cx Cy : Addr, mg x = some (.ref Cx) ∧ mg y = some (.ref Cy) ∧ PySem.W.exmOne K (.ref Cx) (.ref Cy) = some b
theorem exmF_ok {K : PySem.W.Frag} {h : Heap} {mg : Str → Option Value} (KX : K.In h) (N : h.Ns mainGlobals mg) {x y : Str} {b : Bool} (c1 : (He.Fa.glo x).ok K = true) (c2 : (He.Fa.glo y).ok K = true) (c3 : (He.Fa.exm x y b).ok K = true) : Exm K mg x y b :=
  ⟨He.ga K x, He.ga K y, He.glo_ok KX N c1, He.glo_ok KX N c2, He.exm_ok c3⟩
theorem Good.tr (G : Good X W k) {W' : WX} {pn : List (Addr × Obj)} {xe : Value → Shared → Prop} (tk : Takes (X.tr pn xe) W') (po : PassesOwn (model X.prog X.w) X.A X.env xe) : Good (X.tr pn xe) W' k := ⟨G.calm, G.room, tk, po⟩
theorem lookup_mem {α : Type} {n : Str} {b : α} : ∀ {l : List (Str × α)}, l.lookup n = some b → (n, b) ∈ l
  | [], h => by cases h
  | p :: r, h => by
    rw [List.lookup_cons] at h
    split at h
    · rename_i e
      cases h
      have e2 := beq_iff_eq.mp e
      subst e2
      exact List.mem_cons_self
    · exact List.mem_cons_of_mem _ (lookup_mem h)
theorem cs_tryN {x : Str} {body suite : List Stmt} {b₀ : Stmt} {np pos pos' : Pos} {tab : List (Str × Bool)} {mb ms : FS} (G : Good X W k) (hx : Exn X.K X.mg x) (hg : Gl X x) (htab : ∀ q ∈ tab, Exm X.K X.mg q.1 x q.2)
    (hb : ∀ (W' : WX) (pn : List (Addr × Obj)) (xe : Value → Shared → Prop), Good (X.tr pn xe) W' k → CSs (X.tr pn xe) W' body mb)
    (hsu : ∀ (a : Addr) (oe : Obj) (cls : Value) (d : Option Addr) (pn : List (Addr × Obj)), Zc cls d oe → (∃ vs, oe.data = .fields vs) → CSs (X.suite a ((a, oe) :: pn)) W (b₀ :: suite) ms)
    (hst : X.stack = X.env :: X.outer := by rfl) (hfr : X.env.frame = some X.env.locals := by rfl) (hdb : (x == ("__debug__" : Str)) = false := by decide) :
    CS X W (.Try body [.ExceptHandler (some (.Name x np)) none (b₀ :: suite) pos'] [] [] pos) (sTry tab mb ms) := by
  obtain ⟨C, h1, _⟩ := hx
  refine cs_try hst hfr (c := .ref C) ⟨hg, hdb, .inl h1⟩ G (fun n b cls hl hm => ?_) (fun W' pn xe tk po => hb W' pn xe (G.tr tk po)) hsu
  obtain ⟨Cx, Cy, e1, e2, e3⟩ := htab (n, b) (lookup_mem hl)
  simp only at e1 e2 e3
  rw [hm] at e1
  cases e1
  rw [h1] at e2
  cases e2
  exact e3
theorem exm_cons {K : PySem.W.Frag} {mg : Str → Option Value} {x y : Str} {b : Bool} {l : List (Str × Bool)} (h : Exm K mg x y b) (r : ∀ q ∈ l, Exm K mg q.1 y q.2) : ∀ q ∈ ((x, b) :: l), Exm K mg q.1 y q.2 := by
  intro q hq
  rcases List.mem_cons.mp hq with rfl | hq
  · exact h
  · exact r q hq
end
end Dg
/-! Dg10: {k: v, ..}. -/
namespace Dg
open PySem PySem.Spec PyProof.Rows L2 RZ
def mergeU (kus more : List (Key × U)) : List (Key × U) := more.foldl (fun acc kv => putU acc kv.1 kv.2) kus
theorem RepKV.merge {K : PySem.W.Frag} {H : Hp} {ρ : List Addr} : ∀ {more : List (Key × U)} {mv : List (Key × V)} {kus : List (Key × U)} {kvs : List (Key × V)}, RepKV K H ρ more mv → RepKV K H ρ kus kvs → RepKV K H ρ (mergeU kus more) (mergeK kvs mv)
  | [], mv, kus, kvs, h, g => by
    have := h.unnil
    subst this
    exact g
  | (k, u) :: more, mv, kus, kvs, h, g => by
    obtain ⟨v, mv', e, r, h'⟩ := h.uncons
    subst e
    show RepKV K H ρ (mergeU (putU kus k u) more) (mergeK (putK kvs k v) mv')
    exact RepKV.merge h' (RepKV.put r g)
def fPairs : List (FE × FE) → Slots → Mem → Res (List (Key × U))
  | [], _, μ => .ok [] μ
  | (k, v) :: r, s, μ => (k s μ).bind fun ku μ1 => (v s μ1).bind fun u μ2 => match keyU ku with
    | some key => (fPairs r s μ2).bind fun kus μ3 => .ok ((key, u) :: kus) μ3
    | none => .bad
def relKV : RelT (List (Key × U)) (List (Key × V)) := fun K H ρ a b => RepKV K H ρ a b
def fDisp (ms : List (FE × FE)) : FE := fun s μ => (fPairs ms s (μ ++ [.dct []])).bind fun kus μ1 => match μ1[μ.length]? with
  | some (.dct []) => if kus.length ≤ 15 then .ok (.ref μ.length) (μ1.set μ.length (.dct (mergeU [] kus))) else .bad
  | _ => .bad
theorem Post.from' {α β : Type} {X : Cx} {W : WX} {σ : L2.St} {rel : RelT α β} {ρ ρ1 : List Addr} {H H1 : Hp} {μ1 : Mem} {r : Res α} {Q : β → Hp → Prop} (t : Stp X.K ρ H ρ1 H1 μ1) (h : Post X W σ rel ρ H r Q) : Post X W σ rel ρ1 H1 r Q := by
  cases r with
  | ok a m => exact fun v H' ρ' t' r => h v H' ρ' (t.trans t') r
  | ex c m => exact fun cls H' ρ' t' e => h cls H' ρ' (t.trans t') e
  | bad => exact h
section
variable {X : Cx} {W : WX} {k : Nat}
inductive CP (X : Cx) (W : WX) : List (Option Expr) → List Expr → List (FE × FE) → Prop
  | nil : CP X W [] [] []
  | cons {k v : Expr} {mk mv : FE} {ks : List (Option Expr)} {vs : List Expr} {ms : List (FE × FE)} (hk : CE X W k mk) (hv : CE X W v mv) (r : CP X W ks vs ms) : CP X W (some k :: ks) (v :: vs) ((mk, mv) :: ms)
theorem CP.pairs {pos : Pos} {ks : List (Option Expr)} {vs : List Expr} {ms : List (FE × FE)} (c : CP X W ks vs ms) : ∃ trs : List (TE × TE), PPs X pos ks vs trs ∧ ∀ (ρ : List Addr) (μ : Mem) (s : Slots) (σ : L2.St) (H : Hp) (Q : List (V × V) → Hp → Prop), RepS X.K H ρ s σ → RepM X.K H ρ μ →
    Post X W σ relKV ρ H (fPairs ms s μ) (fun kvs H3 => Q (kvs.map fun kv => (kV kv.1, kv.2)) H3) → tPairs trs σ H Q := by
  induction c with
  | nil => exact ⟨[], pps_nil, fun ρ μ s σ H Q hs hm h => h.ok (v := []) (Stp.refl hm) RepKV.nil⟩
  | @cons k v mk mv ks vs ms hk hv r ih =>
    obtain ⟨trs, p, ih⟩ := ih
    refine ⟨(WE X k, WE X v) :: trs, pps_cons pe_w pe_w p, fun ρ μ s σ H Q hs hm h => ?_⟩
    refine hk ρ μ s σ H _ hs hm (h.bind fun ku μ1 x H1 ρ1 t1 r1 h1 => ?_)
    refine hv ρ1 μ1 s σ H1 _ (t1.s hs) t1.mem (h1.bind fun u μ2 y H2 ρ2 t2 r2 h2 => ?_)
    split at h2
    · rename_i key e
      have ex : x = kV key := keyU_ok (t2.v r1) e
      subst ex
      refine ih ρ2 μ2 s σ H2 _ (t2.s (t1.s hs)) t2.mem (h2.bind (rel1 := relKV) fun kus μ3 kvs H3 ρ3 t3 r3 h3 => ?_)
      exact h3.ok (v := (key, y) :: kvs) (Stp.refl t3.mem) (RepKV.cons (t3.v r2) r3)
    · exact h2.elim
theorem ce_disp {ks : List (Option Expr)} {vs : List Expr} {ms : List (FE × FE)} {pos : Pos} (c : CP X W ks vs ms) (hall : ks.all (·.isSome) = true := by rfl) (hl : ks.length = vs.length := by rfl) (h0 : ks ≠ [] := by exact List.cons_ne_nil _ _)
    (h15 : ks.length ≤ 15 := by decide) : CE X W (.Dict ks vs pos) (fDisp ms) := by
  intro ρ μ s σ H Q hs hm h
  obtain ⟨trs, p, run⟩ := c.pairs (pos := pos)
  refine ⟨_, pe_disp p hall hl h0 h15, fun q nq => ?_⟩
  have t0 := newD hm nq (RepKV.nil (K := X.K) (H := H) (ρ := ρ))
  refine run (ρ ++ [q]) (μ ++ [.dct []]) s σ _ _ (t0.s hs) t0.mem ((Post.from' t0 h).bind (rel1 := relKV) fun kus μ1 kvs H1 ρ1 t1 r1 h1 => ?_)
  split at h1
  · rename_i e
    split at h1
    · rename_i hz
      have er : ρ1[μ.length]? = some q := t1.ext.get (by rw [← hm.len]; simp)
      obtain ⟨c, ec, rc⟩ := t1.mem.at er
      rw [e] at ec
      cases ec
      obtain ⟨kv0, a1, a2, a3⟩ := rc
      have : kv0 = [] := by simpa using a2
      subst this
      refine ⟨a1, kvs, rfl, by rw [r1.length]; exact hz, ?_⟩
      exact h1.ok (putD t1.mem er e (RepKV.merge r1 RepKV.nil)) (.ref er)
    · exact h1.elim
  · exact h1.elim
end
end Dg
/-! Dg11: try .. except C as e: return .., where e is asked by isinstance alone. -/
namespace Dg
open PySem PySem.Spec PyProof.Rows L2 RZ
theorem RepS.hide {K : PySem.W.Frag} {H : Hp} {ρ : List Addr} {s : Slots} {σ : L2.St} (h : RepS K H ρ s σ) (i : Nat) (x : Option V) : RepS K H ρ (s.set i none) (σ.set i x) := by
  refine ⟨by simpa using h.len, fun j u e => ?_⟩
  by_cases hj : i = j
  · subst hj
    rw [List.getElem?_set] at e
    simp at e
  · rw [List.getElem?_set_ne hj] at e
    rw [List.getElem?_set_ne hj]
    exact h.get j u e
section
variable {X : Cx} {W : WX} {k i : Nat} {a : Addr}
/-- an expression where slot i holds a -/
def CEat (X : Cx) (W : WX) (i : Nat) (a : Addr) (e : Expr) (m : FE) : Prop := ∀ ρ μ s σ H Q, σ[i]? = some (some (.ref a)) → RepS X.K H ρ s σ → RepM X.K H ρ μ → Post X W σ relV ρ H (m s μ) Q → WE X e σ H Q
theorem at_of {e : Expr} {m : FE} (h : CE X W e m) : CEat X W i a e m := fun ρ μ s σ H Q _ hs hm q => h ρ μ s σ H Q hs hm q
theorem at_one {op : BoolOp} {e : Expr} {m : FE} {pos : Pos} (ha : CEat X W i a e m) : CEat X W i a (.BoolOp op [e] pos) m := fun ρ μ s σ H Q hi hs hm p => ⟨_, pe_one pe_w, ha ρ μ s σ H Q hi hs hm p⟩
theorem at_and {e b : Expr} {rest : List Expr} {ma mb : FE} {pos : Pos} (ha : CEat X W i a e ma) (hb : CEat X W i a (.BoolOp .And (b :: rest) pos) mb) : CEat X W i a (.BoolOp .And (e :: b :: rest) pos) (fAnd ma mb) := by
  intro ρ μ s σ H Q hi hs hm h
  refine ⟨_, pe_and pe_w pe_w, ?_⟩
  refine ha ρ μ s σ H _ hi hs hm (h.bind fun b μ1 x H1 ρ1 t1 r1 h1 => ?_)
  split at h1
  · cases r1
    exact ⟨_, rfl, iteT (hb ρ1 μ1 s σ H1 Q hi (t1.s hs) t1.mem h1)⟩
  · cases r1
    exact ⟨_, rfl, iteF (h1.ok (Stp.refl t1.mem) .bl)⟩
  · exact h1.elim
theorem at_or {e b : Expr} {rest : List Expr} {ma mb : FE} {pos : Pos} (ha : CEat X W i a e ma) (hb : CEat X W i a (.BoolOp .Or (b :: rest) pos) mb) : CEat X W i a (.BoolOp .Or (e :: b :: rest) pos) (fOr ma mb) := by
  intro ρ μ s σ H Q hi hs hm h
  refine ⟨_, pe_or pe_w pe_w, ?_⟩
  refine ha ρ μ s σ H _ hi hs hm (h.bind fun b μ1 x H1 ρ1 t1 r1 h1 => ?_)
  split at h1
  · cases r1
    exact ⟨_, rfl, iteT (h1.ok (Stp.refl t1.mem) .bl)⟩
  · cases r1
    exact ⟨_, rfl, iteF (hb ρ1 μ1 s σ H1 Q hi (t1.s hs) t1.mem h1)⟩
  · exact h1.elim
theorem at_not {e : Expr} {ma : FE} {pos : Pos} (ha : CEat X W i a e ma) : CEat X W i a (.UnaryOp .Not e pos) (fNot ma) := by
  intro ρ μ s σ H Q hi hs hm h
  refine ⟨_, pe_not pe_w, ?_⟩
  refine ha ρ μ s σ H _ hi hs hm (h.bind fun b μ1 x H1 ρ1 t1 r1 h1 => ?_)
  split at h1
  · cases r1
    exact ⟨_, rfl, h1.ok (Stp.refl t1.mem) .bl⟩
  · exact h1.elim
theorem at_isE {D Cy : Addr} {oe : Obj} {pn : List (Addr × Obj)} {n y : Str} {b : Bool} {p p1 p2 pos : Pos} (C : ExcC X.K D) (hz : Zc (.ref D) none oe) (hf : ∃ vs, oe.data = .fields vs) (hk : PySem.W.kitOne X.K (.ref D) (.ref Cy) = some b)
    (hN : X.N[i]? = some n) (hv : Vis X.env.scope n) (hy : X.mg y = some (.ref Cy)) (hgy : Gl X y) (hg : Gl X "isinstance") (hm0 : X.mg "isinstance" = none)
    (hd : (n == ("__debug__" : Str)) = false := by decide) (hcd : (n == ("__classdict__" : Str)) = false := by decide) (hdy : (y == ("__debug__" : Str)) = false := by decide)
    (he : starEach [.Name n p1, .Name y p2] (X.suite a ((a, oe) :: pn)).env = (false, eval (.Name n p1) (X.suite a ((a, oe) :: pn)).env) :: starEach [.Name y p2] (X.suite a ((a, oe) :: pn)).env := by rfl)
    (he2 : starEach [.Name y p2] (X.suite a ((a, oe) :: pn)).env = (false, eval (.Name y p2) (X.suite a ((a, oe) :: pn)).env) :: starEach [] (X.suite a ((a, oe) :: pn)).env := by rfl)
    (hpl : (backTo pos (starEach [.Name y p2] (X.suite a ((a, oe) :: pn)).env)).any (·.1) = false := by rfl) :
    CEat (X.suite a ((a, oe) :: pn)) W i a (.Call (.Name "isinstance" p) [.Name n p1, .Name y p2] [] pos) (fC (.bl b)) := by
  intro ρ μ s σ H Q hi hs hm h
  have hv1 : PE (X.suite a ((a, oe) :: pn)) (.Name n p1) (tVar i) := pe_var hN hv hd hcd
  have hv2 : PE (X.suite a ((a, oe) :: pn)) (.Name y p2) (tC (.ref Cy)) := pe_glob hgy hy (v := .ref Cy) rfl hdy
  refine ⟨_, pe_callB (call_isE C hz hf) hg hm0 bt_isinstance (pa_cons hv1 (pa_cons hv2 pa_nil he2) he) (he := he) (hpl := hpl), ?_⟩
  refine ⟨.ref a, hi, ?_⟩
  refine ⟨.ref Cy, .ref Cy, b, rfl, fun u hu => hu, hk, h.ok (Stp.refl hm) .bl⟩
/-! ### isinstance(e, C) by the name of the class that was raised -/
def fIsX (tab : List (Str × Bool)) (c : Str) : FE := match tab.lookup c with
  | some b => fC (.bl b)
  | none => fun _ _ => .bad
def Isx (K : PySem.W.Frag) (mg : Str → Option Value) (x y : Str) (b : Bool) : Prop := ∃ D Cy : Addr, mg x = some (.ref D) ∧ mg y = some (.ref Cy) ∧ ExcC K D ∧ PySem.W.kitOne K (.ref D) (.ref Cy) = some b
theorem isx_cons {K : PySem.W.Frag} {mg : Str → Option Value} {x y : Str} {b : Bool} {l : List (Str × Bool)} (h : Isx K mg x y b) (r : ∀ q ∈ l, Isx K mg q.1 y q.2) : ∀ q ∈ ((x, b) :: l), Isx K mg q.1 y q.2 := by
  intro q hq
  rcases List.mem_cons.mp hq with rfl | hq
  · exact h
  · exact r q hq
theorem exC_ok {K : PySem.W.Frag} {D : Addr} (c : exC K D = true) : ExcC K D := by
  unfold exC at c
  simp only [Bool.and_eq_true, decide_eq_true_eq] at c
  obtain ⟨c1, c2, c3, c4, c5, c6, c7, c8⟩ := c
  exact ⟨He.eqO_ok c1, He.eqO_ok c2, c3, c4, He.eqO_ok c5, He.eqO_ok c6, c7, c8⟩
theorem isxF_ok {K : PySem.W.Frag} {h : Heap} {mg : Str → Option Value} (KX : K.In h) (N : h.Ns mainGlobals mg) {x y : Str} {b : Bool} (c1 : (He.Fa.glo x).ok K = true) (c2 : (He.Fa.glo y).ok K = true) (c3 : (FaU.isx x y b).ok K = true) : Isx K mg x y b := by
  simp only [FaU.ok, Bool.and_eq_true, decide_eq_true_eq] at c3
  exact ⟨He.ga K x, He.ga K y, He.glo_ok KX N c1, He.glo_ok KX N c2, exC_ok c3.1, c3.2⟩
theorem at_isX {D : Addr} {oe : Obj} {pn : List (Addr × Obj)} {n y c : Str} {tab : List (Str × Bool)} {p p1 p2 pos : Pos} (ht : ∀ q ∈ tab, Isx X.K X.mg q.1 y q.2) (hc : X.mg c = some (.ref D)) (hz : Zc (.ref D) none oe) (hf : ∃ vs, oe.data = .fields vs)
    (hN : X.N[i]? = some n) (hv : Vis X.env.scope n) (hgy : Gl X y) (hg : Gl X "isinstance") (hm0 : X.mg "isinstance" = none)
    (hd : (n == ("__debug__" : Str)) = false := by decide) (hcd : (n == ("__classdict__" : Str)) = false := by decide) (hdy : (y == ("__debug__" : Str)) = false := by decide)
    (he : starEach [.Name n p1, .Name y p2] (X.suite a ((a, oe) :: pn)).env = (false, eval (.Name n p1) (X.suite a ((a, oe) :: pn)).env) :: starEach [.Name y p2] (X.suite a ((a, oe) :: pn)).env := by rfl)
    (he2 : starEach [.Name y p2] (X.suite a ((a, oe) :: pn)).env = (false, eval (.Name y p2) (X.suite a ((a, oe) :: pn)).env) :: starEach [] (X.suite a ((a, oe) :: pn)).env := by rfl)
    (hpl : (backTo pos (starEach [.Name y p2] (X.suite a ((a, oe) :: pn)).env)).any (·.1) = false := by rfl) :
    CEat (X.suite a ((a, oe) :: pn)) W i a (.Call (.Name "isinstance" p) [.Name n p1, .Name y p2] [] pos) (fIsX tab c) := by
  unfold fIsX
  cases hl : tab.lookup c with
  | none => exact fun ρ μ s σ H Q _ _ _ q => q.elim
  | some b =>
    obtain ⟨D2, Cy, e1, e2, e3, e4⟩ := ht (c, b) (lookup_mem hl)
    simp only at e1 e2 e3 e4
    rw [hc] at e1
    cases e1
    exact at_isE e3 hz hf e4 hN hv e2 hgy hg hm0 hd hcd hdy he he2 hpl
theorem bt_ValueError : bootBuiltins "ValueError" = some (.type "ValueError") := by decide +kernel
def Isv (K : PySem.W.Frag) (mg : Str → Option Value) (x : Str) (b : Bool) : Prop := ∃ D : Addr, mg x = some (.ref D) ∧ ExcC K D ∧ PySem.W.kitOne K (.ref D) (.type "ValueError") = some b
theorem isv_cons {K : PySem.W.Frag} {mg : Str → Option Value} {x : Str} {b : Bool} {l : List (Str × Bool)} (h : Isv K mg x b) (r : ∀ q ∈ l, Isv K mg q.1 q.2) : ∀ q ∈ ((x, b) :: l), Isv K mg q.1 q.2 := by
  intro q hq
  rcases List.mem_cons.mp hq with rfl | hq
  · exact h
  · exact r q hq
theorem isvF_ok {K : PySem.W.Frag} {h : Heap} {mg : Str → Option Value} (KX : K.In h) (N : h.Ns mainGlobals mg) {x : Str} {b : Bool} (c1 : (He.Fa.glo x).ok K = true) (c3 : (FaU.isv x "ValueError" b).ok K = true) : Isv K mg x b := by
  simp only [FaU.ok, Bool.and_eq_true, decide_eq_true_eq] at c3
  exact ⟨He.ga K x, He.glo_ok KX N c1, exC_ok c3.1.1, c3.2⟩
theorem at_isV {D : Addr} {oe : Obj} {pn : List (Addr × Obj)} {n c : Str} {tab : List (Str × Bool)} {p p1 p2 pos : Pos} (ht : ∀ q ∈ tab, Isv X.K X.mg q.1 q.2) (hc : X.mg c = some (.ref D)) (hz : Zc (.ref D) none oe) (hf : ∃ vs, oe.data = .fields vs)
    (hN : X.N[i]? = some n) (hv : Vis X.env.scope n) (hgy : Gl X "ValueError") (hmy : X.mg "ValueError" = none) (hg : Gl X "isinstance") (hm0 : X.mg "isinstance" = none)
    (hd : (n == ("__debug__" : Str)) = false := by decide) (hcd : (n == ("__classdict__" : Str)) = false := by decide)
    (he : starEach [.Name n p1, .Name "ValueError" p2] (X.suite a ((a, oe) :: pn)).env = (false, eval (.Name n p1) (X.suite a ((a, oe) :: pn)).env) :: starEach [.Name "ValueError" p2] (X.suite a ((a, oe) :: pn)).env := by rfl)
    (he2 : starEach [.Name "ValueError" p2] (X.suite a ((a, oe) :: pn)).env = (false, eval (.Name "ValueError" p2) (X.suite a ((a, oe) :: pn)).env) :: starEach [] (X.suite a ((a, oe) :: pn)).env := by rfl)
    (hpl : (backTo pos (starEach [.Name "ValueError" p2] (X.suite a ((a, oe) :: pn)).env)).any (·.1) = false := by rfl) :
    CEat (X.suite a ((a, oe) :: pn)) W i a (.Call (.Name "isinstance" p) [.Name n p1, .Name "ValueError" p2] [] pos) (fIsX tab c) := by
  unfold fIsX
  cases hl : tab.lookup c with
  | none => exact fun ρ μ s σ H Q _ _ _ q => q.elim
  | some b =>
    obtain ⟨D2, e1, e3, e4⟩ := ht (c, b) (lookup_mem hl)
    simp only at e1 e3 e4
    rw [hc] at e1
    cases e1
    intro ρ μ s σ H Q hi hs hm h
    have hv1 : PE (X.suite a ((a, oe) :: pn)) (.Name n p1) (tVar i) := pe_var hN hv hd hcd
    have hv2 : PE (X.suite a ((a, oe) :: pn)) (.Name "ValueError" p2) (tC (.ty "ValueError")) := pe_bltn hgy hmy bt_ValueError rfl
    refine ⟨_, pe_callB (call_isE e3 hz hf) hg hm0 bt_isinstance (pa_cons hv1 (pa_cons hv2 pa_nil he2) he) (he := he) (hpl := hpl), ?_⟩
    refine ⟨.ref a, hi, ?_⟩
    exact ⟨.ty "ValueError", .type "ValueError", b, rfl, fun u hu => hu, e4, h.ok (Stp.refl hm) .bl⟩
/-! ### the statement -/
def sTryAs (tab : List (Str × Bool)) (i : Nat) (body : FS) (ms : Str → FE) : FS := fun s μ => match body s μ with
  | .ex c s1 μ1 => match tab.lookup c with
    | some true => if i < s1.length then ofR (ms c (s1.set i none) μ1) (s1.set i none) fun u μ2 => .rt u μ2 else .bad
    | some false => .ex c s1 μ1
    | none => .bad
  | o => o
theorem cs_tryAs_end {a0 : Addr} {oe : Obj} {pn2 : List (Addr × Obj)} {e : Expr} {m : FE} {rp : Pos} {ρ ρ' : List Addr} {H H' : Hp} {s1 : Slots} {m1 : Mem} {σ' : L2.St} {D D' : Ends} (hce : CEat (X.suite a0 ((a0, oe) :: pn2)) W i a0 e m) (hlt : i < s1.length) (r : RepS X.K H' ρ' s1 σ') (t : Stp X.K ρ H ρ' H' m1)
    (h : PostS X W ρ H (ofR (m (s1.set i none) m1) (s1.set i none) fun u μ2 => .rt u μ2) D) (hD : D'.rt = D.rt := by rfl) : WSs (X.suite a0 ((a0, oe) :: pn2)) [.Return (some e) rp] D' (σ'.set i (some (.ref a0))) H' := by
  have r2 := r.hide i (some (.ref a0))
  have hl : i < σ'.length := by rw [← r.len]; exact hlt
  have hz2 : (σ'.set i (some (V.ref a0)))[i]? = some (some (.ref a0)) := by rw [List.getElem?_set_self hl]
  refine ⟨_, pss_one (ps_ret pe_w), ?_⟩
  refine hce ρ' m1 _ _ H' _ hz2 r2 t.mem ?_
  have h' : PostS X W ρ' H' (ofR (m (s1.set i none) m1) (s1.set i none) fun u μ2 => .rt u μ2) D := PostS.from t h
  exact PostS.bind r2 h' fun u μ1 y H1 ρ1 t1 r1 h1 => by rw [hD]; exact h1 y H1 ρ1 (Stp.refl t1.mem) r1
theorem cs_tryAs {x n : Str} {body : List Stmt} {e : Expr} {np pos pos' rp : Pos} {tab : List (Str × Bool)} {mb : FS} {ms : Str → FE} (G : Good X W k) (hN : X.N.Nodup) (hi : X.N[i]? = some n) (hln : X.env.kindOf n = some .local) (hx : Exn X.K X.mg x) (hg : Gl X x)
    (htab : ∀ q ∈ tab, Exm X.K X.mg q.1 x q.2)
    (hb : ∀ (W' : WX) (pn : List (Addr × Obj)) (xe : Value → Shared → Prop), Good (X.tr pn xe) W' k → CSs (X.tr pn xe) W' body mb)
    (hsu : ∀ (c : Str) (C a : Addr) (oe : Obj) (pn : List (Addr × Obj)), (c, true) ∈ tab → X.mg c = some (.ref C) → Zc (.ref C) none oe → (∃ vs, oe.data = .fields vs) → CEat (X.suite a ((a, oe) :: pn)) W i a e (ms c))
    (hst : X.stack = X.env :: X.outer := by rfl) (hfr : X.env.frame = some X.env.locals := by rfl) (hdb : (x == ("__debug__" : Str)) = false := by decide) :
    CS X W (.Try body [.ExceptHandler (some (.Name x np)) (some n) [.Return (some e) rp] pos'] [] [] pos) (sTryAs tab i mb ms) := by
  obtain ⟨C, h1, _⟩ := hx
  intro ρ μ s σ H D hs hm h
  refine ⟨_, ps_try_as (c := .ref C) hst hfr hN hi hln ⟨hg, hdb, .inl h1⟩ (Wout := W) (tb := fun W' D σ H => ∀ pn xe, Takes (X.tr pn xe) W' → PassesOwn (model X.prog X.w) X.A X.env xe → WSs (X.tr pn xe) body D σ H)
    (ts := fun a cls d D σ H => ∀ oe pn, Zc cls d oe → (∃ vs, oe.data = .fields vs) → WSs (X.suite a ((a, oe) :: pn)) [.Return (some e) rp] D σ H) G.tk
    (fun W' pn xe tk' po => ⟨fun pins s σ H D I h => pss_w.run pins s σ H D I (h pn xe tk' po)⟩) (fun a oe cls d pn hz hf => ⟨fun pins s σ H D I h => pss_w.run pins s σ H D I (h oe pn hz hf)⟩), ?_⟩
  intro pn xe tk' po
  refine hb _ pn xe (G.tr tk' po) ρ μ s σ H D hs hm ?_
  unfold sTryAs at h
  cases eb : mb s μ with
  | nx s1 m1 => rw [eb] at h; exact h
  | rt u m1 => rw [eb] at h; exact h
  | bk s1 m1 => rw [eb] at h; exact h
  | ct s1 m1 => rw [eb] at h; exact h
  | bad => rw [eb] at h; exact h
  | ex c' s1 m1 =>
    rw [eb] at h
    simp only at h
    intro cls σ' H' ρ' t r em
    cases hl : tab.lookup c' with
    | none => rw [hl] at h; exact h.elim
    | some b =>
      rw [hl] at h
      obtain ⟨Cx, Cy, e1, e2, e3⟩ := htab (c', b) (lookup_mem hl)
      simp only at e1 e2 e3
      have em' : X.mg c' = some cls := em
      rw [em'] at e1
      cases e1
      rw [h1] at e2
      cases e2
      refine ⟨b, e3, ?_, ?_⟩
      · rintro rfl a0 ha oe pn2 hz hf
        simp only at h
        split at h
        · rename_i hlt
          exact cs_tryAs_end (hsu c' Cx a0 oe pn2 (lookup_mem hl) em' hz hf) hlt r t h
        · exact h.elim
      · rintro rfl
        exact h _ σ' H' ρ' t r em
end
end Dg
/-! Dg12: x in TABLE, TABLE a dict of the module with text keys. -/
namespace Dg
open PySem PySem.Spec PyProof.Rows L2 RZ
theorem find_keys {z : Str} : ∀ {l : List DictEntry} {ks : List Str}, l.map keyN = ks.map some → l.any (·.refKey) = false ∧ (l.find? (·.key.isStr z)).isSome = decide (z ∈ ks)
  | [], ks, h => by
    have : ks = [] := by simpa using h.symm
    subst this
    simp
  | e :: l, [], h => by simp at h
  | e :: l, k :: ks, h => by
    simp only [List.map_cons, List.cons.injEq] at h
    obtain ⟨h1, h2⟩ := h
    obtain ⟨i1, i2⟩ := find_keys (z := z) h2
    unfold keyN at h1
    split at h1
    · rename_i x t ek
      cases h1
      have ek2 : e.refKey = false := by unfold DictEntry.refKey; rw [ek]
      refine ⟨by rw [List.any_cons, ek2, i1]; rfl, ?_⟩
      rw [List.find?_cons]
      by_cases hz : k = z
      · subst hz
        simp [ek, Value.isStr]
      · have : e.key.isStr z = false := by rw [ek]; simpa [Value.isStr] using hz
        rw [this]
        simp only [i2, List.mem_cons]
        simp [Ne.symm hz]
    · cases h1
theorem ns_keys {K : PySem.W.Frag} {a : Addr} {ks : List Str} (h : keysB K a ks = true) (z : Str) : ∃ r, PySem.W.nsIn K a z = some r ∧ r.isSome = decide (z ∈ ks) := by
  unfold keysB at h
  unfold PySem.W.nsIn
  split at h
  · rename_i oc od es n sl e
    obtain ⟨i1, i2⟩ := find_keys (z := z) (of_decide_eq_true h)
    rw [e]
    simp only
    cases ef : es.toList.find? (·.key.isStr z) with
    | some q => rw [ef] at i2; exact ⟨_, rfl, i2⟩
    | none => rw [ef] at i2; simp only [i1]; exact ⟨none, rfl, i2⟩
  · cases h
def KIn (K : PySem.W.Frag) (mg : Str → Option Value) (w : World) (x : Str) (ks : List Str) : Prop := ∃ a es n, mg x = some (.ref a) ∧ KDict K w a es n ∧ keysB K a ks = true
section
variable {X : Cx} {W : WX} {k : Nat}
def fKIn (ks : List Str) (a : FE) : FE := fun s μ => (a s μ).bind fun u μ1 => match u with
  | .str z => .ok (.bl (decide (z ∈ ks))) μ1
  | _ => .bad
theorem ce_kin {x : Str} {ks : List Str} {a : Expr} {ma : FE} {p pos : Pos} (hg : Gl X x) (h : KIn X.K X.mg X.w x ks) (ha : CE X W a ma) (hd : (x == ("__debug__" : Str)) = false := by decide) : CE X W (.Compare a [.In] [.Name x p] pos) (fKIn ks ma) := by
  obtain ⟨d, es, n, h1, h2, h3⟩ := h
  intro ρ μ s σ H Q hs hm q
  refine ⟨_, pe_cmpR (op_in_kd h2) pe_w (pe_glob hg h1 (v := .ref d) rfl hd) (by rfl), ?_⟩
  refine ha ρ μ s σ H _ hs hm (q.bind fun u μ1 y H1 ρ1 t1 r1 q1 => ?_)
  cases u with
  | str z =>
    cases r1
    obtain ⟨r, e1, e2⟩ := ns_keys h3 z
    refine ⟨z, r, rfl, rfl, e1, ?_⟩
    rw [e2]
    exact q1.ok (Stp.refl t1.mem) .bl
  | _ => exact q1.elim
theorem ce_knin {x : Str} {ks : List Str} {a : Expr} {ma : FE} {p pos : Pos} (hg : Gl X x) (h : KIn X.K X.mg X.w x ks) (ha : CE X W a ma) (hd : (x == ("__debug__" : Str)) = false := by decide) : CE X W (.Compare a [.NotIn] [.Name x p] pos) (fNot (fKIn ks ma)) := by
  obtain ⟨d, es, n, h1, h2, h3⟩ := h
  intro ρ μ s σ H Q hs hm q
  refine ⟨_, pe_cmpR (op_notIn_kd h2) pe_w (pe_glob hg h1 (v := .ref d) rfl hd) (by rfl), ?_⟩
  have q' : Post X W σ relV ρ H ((ma s μ).bind fun u μ1 => ((match u with
    | .str z => .ok (.bl (decide (z ∈ ks))) μ1
    | _ => .bad : Res U)).bind fun u μ1 => match u with
    | .bl b => .ok (.bl (!b)) μ1
    | _ => .bad) Q := by
    have e : fNot (fKIn ks ma) s μ = ((ma s μ).bind fun u μ1 => ((match u with
      | .str z => .ok (.bl (decide (z ∈ ks))) μ1
      | _ => .bad : Res U)).bind fun u μ1 => match u with
      | .bl b => .ok (.bl (!b)) μ1
      | _ => .bad) := by
      unfold fNot fKIn
      cases ma s μ <;> rfl
    rw [← e]; exact q
  refine ha ρ μ s σ H _ hs hm (q'.bind fun u μ1 y H1 ρ1 t1 r1 q1 => ?_)
  cases u with
  | str z =>
    cases r1
    obtain ⟨r, e1, e2⟩ := ns_keys h3 z
    refine ⟨z, r, rfl, rfl, e1, ?_⟩
    rw [e2]
    exact Post.ok (u := U.bl (!decide (z ∈ ks))) q1 (Stp.refl t1.mem) .bl
  | _ => exact q1.elim
def tKIn (ks : List Str) (a : FE) : FT := fun s μ => (a s μ).bind fun u μ1 => match u with
  | .str z => .ok (decide (z ∈ ks)) μ1
  | _ => .bad
theorem ct_kin {x : Str} {ks : List Str} {a : Expr} {ma : FE} {p pos : Pos} (hg : Gl X x) (h : KIn X.K X.mg X.w x ks) (ha : CE X W a ma) (hd : (x == ("__debug__" : Str)) = false := by decide) : CT X W (.Compare a [.In] [.Name x p] pos) (tKIn ks ma) := by
  obtain ⟨d, es, n, h1, h2, h3⟩ := h
  intro ρ μ s σ H Q hs hm q
  refine ⟨_, pt_cmpR (op_in_kd h2) pe_w (pe_glob hg h1 (v := .ref d) rfl hd) (by rfl), ?_⟩
  refine ha ρ μ s σ H _ hs hm (q.bind fun u μ1 y H1 ρ1 t1 r1 q1 => ?_)
  cases u with
  | str z =>
    cases r1
    obtain ⟨r, e1, e2⟩ := ns_keys h3 z
    refine ⟨z, r, rfl, rfl, e1, ?_⟩
    rw [e2]
    exact ⟨_, rfl, q1.ok (Stp.refl t1.mem) rfl⟩
  | _ => exact q1.elim
def tKNin (ks : List Str) (a : FE) : FT := fun s μ => (a s μ).bind fun u μ1 => match u with
  | .str z => .ok (!decide (z ∈ ks)) μ1
  | _ => .bad
theorem ct_knin {x : Str} {ks : List Str} {a : Expr} {ma : FE} {p pos : Pos} (hg : Gl X x) (h : KIn X.K X.mg X.w x ks) (ha : CE X W a ma) (hd : (x == ("__debug__" : Str)) = false := by decide) : CT X W (.Compare a [.NotIn] [.Name x p] pos) (tKNin ks ma) := by
  obtain ⟨d, es, n, h1, h2, h3⟩ := h
  intro ρ μ s σ H Q hs hm q
  refine ⟨_, pt_cmpR (op_notIn_kd h2) pe_w (pe_glob hg h1 (v := .ref d) rfl hd) (by rfl), ?_⟩
  refine ha ρ μ s σ H _ hs hm (q.bind fun u μ1 y H1 ρ1 t1 r1 q1 => ?_)
  cases u with
  | str z =>
    cases r1
    obtain ⟨r, e1, e2⟩ := ns_keys h3 z
    refine ⟨z, r, rfl, rfl, e1, ?_⟩
    rw [e2]
    exact ⟨_, rfl, q1.ok (Stp.refl t1.mem) rfl⟩
  | _ => exact q1.elim
end
theorem kin_ok {K : PySem.W.Frag} {h : Heap} {mg : Str → Option Value} {w : World} (KX : K.In h) (N : h.Ns mainGlobals mg) {x : Str} {ks : List Str} {es : Array DictEntry} {n : Nat} (c1 : (He.Fa.glo x).ok K = true) (c2 : (FaU.keys x ks).ok K = true) (D : KDict K w (He.ga K x) es n) : KIn K mg w x ks :=
  ⟨He.ga K x, es, n, He.glo_ok KX N c1, D, c2⟩
end Dg
/-! Dg13: list.index, list.insert, dict.get. -/
namespace Dg
open PySem PySem.Spec PyProof.Rows L2 RZ
section
variable {X : Cx} {W : WX} {k : Nat}
/-! ### list.index of flat values -/
def flU : U → Option V
  | .non => some .non
  | .bl b => some (.bl b)
  | .int i => some (.int i)
  | .str s => some (.str s)
  | _ => none
theorem flU_ok {K : PySem.W.Frag} {H : Hp} {ρ : List Addr} {u : U} {v x : V} (r : RepV K H ρ u v) (e : flU u = some x) : v = x ∧ flatV v = true := by
  cases r <;> simp only [flU, Option.some.injEq, reduceCtorEq] at e
  · subst e; exact ⟨rfl, rfl⟩
  · subst e; exact ⟨rfl, rfl⟩
  · subst e; exact ⟨rfl, rfl⟩
  · subst e; exact ⟨rfl, rfl⟩
def flUs : List U → Option (List V)
  | [] => some []
  | u :: us => match flU u, flUs us with
    | some v, some vs => some (v :: vs)
    | _, _ => none
theorem flUs_ok {K : PySem.W.Frag} {H : Hp} {ρ : List Addr} : ∀ {us : List U} {vs xs : List V}, RepVs K H ρ us vs → flUs us = some xs → vs = xs ∧ vs.all flatV = true
  | [], _, _, r, e => by cases r; cases e; exact ⟨rfl, rfl⟩
  | u :: us, _, xs, r, e => by
    cases r with
    | cons h t =>
      simp only [flUs] at e
      cases e1 : flU u with
      | none => rw [e1] at e; cases e
      | some v =>
        cases e2 : flUs us with
        | none => rw [e1, e2] at e; cases e
        | some vs =>
          rw [e1, e2] at e
          cases e
          obtain ⟨a1, a2⟩ := flU_ok h e1
          obtain ⟨b1, b2⟩ := flUs_ok t e2
          subst a1 b1
          exact ⟨rfl, by simp [a2, b2]⟩
def idxV (y : V) : List V → Option Nat
  | [] => none
  | z :: zs => if eqV z y then some 0 else (idxV y zs).map (· + 1)
theorem idxV_ok {y : V} : ∀ {zs : List V} {j : Nat}, idxV y zs = some j → (∃ z, zs[j]? = some z ∧ eqV z y = true) ∧ ∀ (m : Nat) (z' : V), m < j → zs[m]? = some z' → eqV z' y = false
  | [], j, e => by cases e
  | z :: zs, j, e => by
    simp only [idxV] at e
    by_cases h : eqV z y = true
    · rw [if_pos h] at e
      cases e
      exact ⟨⟨z, rfl, h⟩, fun m z' hm => by omega⟩
    · rw [if_neg h] at e
      cases e2 : idxV y zs with
      | none => rw [e2] at e; cases e
      | some i =>
        rw [e2] at e
        cases e
        obtain ⟨⟨w, a1, a2⟩, b⟩ := idxV_ok e2
        refine ⟨⟨w, by simpa using a1, a2⟩, fun m z' hm hz => ?_⟩
        cases m with
        | zero =>
          simp at hz
          subst hz
          simpa using h
        | succ m => exact b m z' (by have h2 : m + 1 < i + 1 := hm; omega) (by simpa using hz)
def gIndex (u : U) (us : List U) (μ : Mem) : Res U := match lstU μ u, us with
  | some xs, [w] => match flUs xs, flU w with
    | some vs, some y => match idxV y vs with
      | some j => .ok (.int (j : Nat)) μ
      | none => .bad
    | _, _ => .bad
  | _, _ => .bad
theorem gs_index : MtS X W "list.index" gIndex := by
  intro ρ μ σ H u us x vs Q hm ru rus h
  unfold gIndex at h
  split at h
  · rename_i xs w e1
    split at h
    · rename_i ws y e2 e3
      split at h
      · rename_i j e4
        obtain ⟨a, zs, rfl, hs, rr⟩ := lstU_ok hm ru e1
        cases rus with
        | cons r1 r2 =>
          cases r2
          obtain ⟨p1, p2⟩ := flU_ok r1 e3
          obtain ⟨q1, q2⟩ := flUs_ok rr e2
          subst p1 q1
          obtain ⟨⟨z, a1, a2⟩, a3⟩ := idxV_ok e4
          exact ⟨_, mt_index, a, _, _, j, z, rfl, rfl, hs, p2, q2, a1, a2, a3, h.ok (Stp.refl hm) .int⟩
      · exact h.elim
    · exact h.elim
  · exact h.elim
/-! ### list.insert -/
def gInsert (u : U) (us : List U) (μ : Mem) : Res U := match u, us with
  | .ref i, [.int n, w] => match μ[i]? with
    | some (.lst xs) => if xs.length < lim ∧ 0 ≤ n ∧ n < 2 ^ 62 then .ok .non (μ.set i (.lst (xs.take n.toNat ++ [w] ++ xs.drop n.toNat))) else .bad
    | _ => .bad
  | _, _ => .bad
theorem gs_insert : MtS X W "list.insert" gInsert := by
  intro ρ μ σ H u us x vs Q hm ru rus h
  unfold gInsert at h
  split at h
  · split at h
    · rename_i e
      split at h
      · rename_i hc
        cases ru with
        | ref hr =>
          cases rus with
          | cons r1 r2 =>
            cases r1
            cases r2 with
            | cons r1 r2 =>
              cases r2
              obtain ⟨ws, q, rr⟩ := lst_of hm hr e
              exact ⟨_, mt_insert, _, ws, _, _, rfl, rfl, q, by rw [← rr.length]; exact lim_lt hc.1, hc.2.1, by have := hc.2.2; omega, h.ok (putL hm hr e (((rr.take _).append (.one r1)).append (rr.drop _))) .non⟩
      · exact h.elim
    · exact h.elim
  · exact h.elim
end
end Dg
/-! Dg14: walks over dicts (locked meanwhile), dict.get. -/
namespace Dg
open PySem PySem.Spec PyProof.Rows L2 RZ
def kU : Key → U
  | .inl i => .int i
  | .inr x => .str x
section
variable {X : Cx} {W : WX} {k : Nat}
/-! ### locks -/
theorem TV.lock {H : Hp} {d : Addr} {u v : HO} (h : H d = some u) (hs : Sft u) : TV H (upd H d v) := (TX.put fun o' r => by rw [h] at r; cases r; exact hs).tv
theorem TV.unlock {H : Hp} {d : Addr} {o : Obj} {u v : HO} (h : H d = some (.frz o u)) (h1 : ∀ xs, u ≠ .tup xs) (h2 : ∀ xs, u ≠ .lst xs) : TV H (upd H d v) := ⟨fun a xs r => by
  rcases r with r | ⟨z, r⟩
  · have ne : a ≠ d := fun e => by rw [e, h] at r; cases r
    exact .inl (by rw [upd_ne ne]; exact r)
  · have ne : a ≠ d := fun e => by rw [e, h] at r; cases r; exact h1 _ rfl
    exact .inr ⟨z, by rw [upd_ne ne]; exact r⟩, fun a z u r => by
  have ne : a ≠ d := fun e => by rw [e, h] at r; cases r; exact h2 _ rfl
  rw [upd_ne ne]; exact r⟩
/-- from before a lock to behind it -/
theorem TX.across {H H' : Hp} {d : Addr} {o : Obj} {u : HO} (h0 : H d = some u) (hs : Sft u) (t : TX (upd H d (.frz o u)) H') (h1 : H' d = some (.frz o u)) (v : HO) : TX H (upd H' d v) := ⟨fun a xs r => by
  have ne : a ≠ d := fun e => by
    rcases r with r | ⟨z, r⟩
    · rw [e, h0] at r; cases r; exact hs.1 _ rfl
    · rw [e, h0] at r; cases r; exact hs.2 _ _ rfl
  have r2 : Rd (upd H d (.frz o u)) a (.tup xs) := by
    rcases r with r | ⟨z, r⟩
    · exact .inl (by rw [upd_ne ne]; exact r)
    · exact .inr ⟨z, by rw [upd_ne ne]; exact r⟩
  rcases t.1 a xs r2 with r | ⟨z, r⟩
  · exact .inl (by rw [upd_ne ne]; exact r)
  · exact .inr ⟨z, by rw [upd_ne ne]; exact r⟩, fun a z w r => by
  have ne : a ≠ d := fun e => by rw [e, h0] at r; cases r; exact hs.2 _ _ rfl
  rw [upd_ne ne]
  exact t.2 a z w (by rw [upd_ne ne]; exact r)⟩
theorem TX.into {H H' : Hp} {d : Addr} {o : Obj} {u : HO} (h0 : H d = some u) (hs : Sft u) (t : TX (upd H d (.frz o u)) H') : TX H H' := ⟨fun a xs r => by
  have ne : a ≠ d := fun e => by
    rcases r with r | ⟨z, r⟩
    · rw [e, h0] at r; cases r; exact hs.1 _ rfl
    · rw [e, h0] at r; cases r; exact hs.2 _ _ rfl
  refine t.1 a xs ?_
  rcases r with r | ⟨z, r⟩
  · exact .inl (by rw [upd_ne ne]; exact r)
  · exact .inr ⟨z, by rw [upd_ne ne]; exact r⟩, fun a z w r => by
  have ne : a ≠ d := fun e => by rw [e, h0] at r; cases r; exact hs.2 _ _ rfl
  exact t.2 a z w (by rw [upd_ne ne]; exact r)⟩
def lkC : Cell → Option Cell
  | .dct kus => some (.fdc kus)
  | _ => none
def ulC : Cell → Option Cell
  | .fdc kus => some (.dct kus)
  | _ => none
def ulM (r : Nat) (μ : Mem) : Option Mem := match μ[r]? with
  | some c => match ulC c with
    | some c' => some (μ.set r c')
    | none => none
  | none => none
def ulO (r : Nat) (o : Out) : Out := match o with
  | .nx s μ => match ulM r μ with
    | some μ' => .nx s μ'
    | none => .bad
  | .rt u μ => match ulM r μ with
    | some μ' => .rt u μ'
    | none => .bad
  | .bk s μ => match ulM r μ with
    | some μ' => .bk s μ'
    | none => .bad
  | .ct s μ => match ulM r μ with
    | some μ' => .ct s μ'
    | none => .bad
  | .ex c s μ => .ex c s μ
  | .bad => .bad
/-- the statement, while the dict that e names is locked -/
def sLock (e : FE) (b : FS) : FS := fun s μ => match e s μ with
  | .ok (.ref r) _ => match μ[r]? with
    | some c => match lkC c with
      | some c' => ulO r (b s (μ.set r c'))
      | none => b s μ
    | none => b s μ
  | _ => b s μ
theorem ulM_ok {K : PySem.W.Frag} {H H' : Hp} {ρ ρ' : List Addr} {μ' μ2 : Mem} {r : Nat} {d : Addr} {o : Obj} {u : HO} {kvs0 : List (Key × V)} (hu : u = .dK kvs0) (h0 : H d = some u) (hr : ρ[r]? = some d)
    (t : Stp K ρ (upd H d (.frz o u)) ρ' H' μ') (h1 : H' d = some (.frz o u)) (e : ulM r μ' = some μ2) : Stp K ρ H ρ' (upd H' d u) μ2 ∧ TV H' (upd H' d u) := by
  subst hu
  have tv : TV H' (upd H' d (.dK kvs0)) := TV.unlock h1 (fun _ => by simp) (fun _ => by simp)
  refine ⟨⟨t.ext, TX.across h0 (by simp [Sft]) t.tx h1 _, ?_⟩, tv⟩
  unfold ulM at e
  cases ec : μ'[r]? with
  | none => rw [ec] at e; cases e
  | some c =>
    rw [ec] at e
    cases c with
    | fdc kus =>
      cases e
      obtain ⟨o', kvs, q1, q2, q3⟩ := t.mem.get (t.ext.get hr) ec
      rw [h1] at q1
      cases q1
      exact t.mem.putV tv (t.ext.get hr) ⟨_, upd_same, q2, q3.monoV tv (Ext.refl _)⟩
    | _ => cases e
theorem cs_lock {st : Stmt} {e : FE} {m : FS} (h : CS X W st m) : CS X W st (sLock e m) := by
  intro ρ μ s σ H D hs hm p
  unfold sLock at p
  have plain : PostS X W ρ H (m s μ) D → WS X st D σ H := h ρ μ s σ H D hs hm
  split at p
  · rename_i r μ1 _
    split at p
    · rename_i c ec
      split at p
      · rename_i c' el
        cases c with
        | dct kus =>
          cases el
          have hlt : r < ρ.length := by rw [hm.len]; exact (List.getElem?_eq_some_iff.mp ec).1
          have hr : ρ[r]? = some ρ[r] := List.getElem?_eq_getElem hlt
          obtain ⟨kvs, q1, q2, q3⟩ := hm.get hr ec
          refine ⟨_, ps_lock ps_w, ρ[r], .dK kvs, q1, trivial, fun od => ?_⟩
          have tv : TV H (upd H ρ[r] (.frz od (.dK kvs))) := TV.lock q1 (by simp [Sft])
          have hm' : RepM X.K (upd H ρ[r] (.frz od (.dK kvs))) ρ (μ.set r (.fdc kus)) := hm.putV tv hr ⟨od, kvs, upd_same, q2, q3.monoV tv (Ext.refl _)⟩
          have hs' : RepS X.K (upd H ρ[r] (.frz od (.dK kvs))) ρ s σ := ⟨hs.len, fun i u e => by obtain ⟨v, a1, a2⟩ := hs.get i u e; exact ⟨v, a1, a2.monoV tv (Ext.refl _)⟩⟩
          refine h ρ (μ.set r (.fdc kus)) s σ _ _ hs' hm' ?_
          have frz : ∀ {ρ' H' μ'}, Stp X.K ρ (upd H ρ[r] (.frz od (.dK kvs))) ρ' H' μ' → H' ρ[r] = some (.frz od (.dK kvs)) := fun t => t.tx.2 _ _ _ upd_same
          cases eo : m s (μ.set r (.fdc kus)) with
          | nx s1 m1 =>
            rw [eo] at p
            intro σ' H' ρ' t rs
            refine ⟨frz t, ?_⟩
            simp only [ulO] at p
            split at p
            · rename_i m2 e2
              obtain ⟨t2, tv2⟩ := ulM_ok rfl q1 hr t (frz t) e2
              exact p σ' _ ρ' t2 ⟨rs.len, fun i u e => by obtain ⟨v, a1, a2⟩ := rs.get i u e; exact ⟨v, a1, a2.monoV tv2 (Ext.refl _)⟩⟩
            · exact p.elim
          | rt u m1 =>
            rw [eo] at p
            intro v H' ρ' t rv
            refine ⟨frz t, ?_⟩
            simp only [ulO] at p
            split at p
            · rename_i m2 e2
              obtain ⟨t2, tv2⟩ := ulM_ok rfl q1 hr t (frz t) e2
              exact p v _ ρ' t2 (rv.monoV tv2 (Ext.refl _))
            · exact p.elim
          | bk s1 m1 =>
            rw [eo] at p
            intro σ' H' ρ' t rs
            refine ⟨frz t, ?_⟩
            simp only [ulO] at p
            split at p
            · rename_i m2 e2
              obtain ⟨t2, tv2⟩ := ulM_ok rfl q1 hr t (frz t) e2
              exact p σ' _ ρ' t2 ⟨rs.len, fun i u e => by obtain ⟨v, a1, a2⟩ := rs.get i u e; exact ⟨v, a1, a2.monoV tv2 (Ext.refl _)⟩⟩
            · exact p.elim
          | ct s1 m1 =>
            rw [eo] at p
            intro σ' H' ρ' t rs
            refine ⟨frz t, ?_⟩
            simp only [ulO] at p
            split at p
            · rename_i m2 e2
              obtain ⟨t2, tv2⟩ := ulM_ok rfl q1 hr t (frz t) e2
              exact p σ' _ ρ' t2 ⟨rs.len, fun i u e => by obtain ⟨v, a1, a2⟩ := rs.get i u e; exact ⟨v, a1, a2.monoV tv2 (Ext.refl _)⟩⟩
            · exact p.elim
          | ex c2 s1 m1 =>
            rw [eo] at p
            intro cls σ' H' ρ' t rs em
            exact p cls σ' H' ρ' ⟨t.ext, TX.into q1 (by simp [Sft]) t.tx, t.mem⟩ rs em
          | bad => rw [eo] at p; exact p.elim
        | _ => cases el
      · exact plain p
    · exact plain p
  · exact plain p
/-- an expression, while the dict that e names is locked -/
def ulR (r : Nat) (o : Res U) : Res U := match o with
  | .ok u μ => match ulM r μ with
    | some μ' => .ok u μ'
    | none => .bad
  | .ex c μ => .ex c μ
  | .bad => .bad
def fLock (e : FE) (b : FE) : FE := fun s μ => match e s μ with
  | .ok (.ref r) _ => match μ[r]? with
    | some c => match lkC c with
      | some c' => ulR r (b s (μ.set r c'))
      | none => b s μ
    | none => b s μ
  | _ => b s μ
theorem ce_lock {x : Expr} {e : FE} {m : FE} (h : CE X W x m) : CE X W x (fLock e m) := by
  intro ρ μ s σ H Q hs hm p
  unfold fLock at p
  have plain : Post X W σ relV ρ H (m s μ) Q → WE X x σ H Q := h ρ μ s σ H Q hs hm
  split at p
  · rename_i r μ1 _
    split at p
    · rename_i c ec
      split at p
      · rename_i c' el
        cases c with
        | dct kus =>
          cases el
          have hlt : r < ρ.length := by rw [hm.len]; exact (List.getElem?_eq_some_iff.mp ec).1
          have hr : ρ[r]? = some ρ[r] := List.getElem?_eq_getElem hlt
          obtain ⟨kvs, q1, q2, q3⟩ := hm.get hr ec
          refine ⟨_, pe_lock pe_w, ρ[r], .dK kvs, q1, trivial, fun od => ?_⟩
          have tv : TV H (upd H ρ[r] (.frz od (.dK kvs))) := TV.lock q1 (by simp [Sft])
          have hm' : RepM X.K (upd H ρ[r] (.frz od (.dK kvs))) ρ (μ.set r (.fdc kus)) := hm.putV tv hr ⟨od, kvs, upd_same, q2, q3.monoV tv (Ext.refl _)⟩
          have hs' : RepS X.K (upd H ρ[r] (.frz od (.dK kvs))) ρ s σ := ⟨hs.len, fun i u e => by obtain ⟨v, a1, a2⟩ := hs.get i u e; exact ⟨v, a1, a2.monoV tv (Ext.refl _)⟩⟩
          refine h ρ (μ.set r (.fdc kus)) s σ _ _ hs' hm' ?_
          have frz : ∀ {ρ' H' μ'}, Stp X.K ρ (upd H ρ[r] (.frz od (.dK kvs))) ρ' H' μ' → H' ρ[r] = some (.frz od (.dK kvs)) := fun t => t.tx.2 _ _ _ upd_same
          cases eo : m s (μ.set r (.fdc kus)) with
          | ok u m1 =>
            rw [eo] at p
            intro v H' ρ' t rv
            refine ⟨frz t, ?_⟩
            simp only [ulR] at p
            split at p
            · rename_i m2 e2
              obtain ⟨t2, tv2⟩ := ulM_ok rfl q1 hr t (frz t) e2
              exact p v _ ρ' t2 (RepV.monoV tv2 (Ext.refl _) rv)
            · exact p.elim
          | ex c2 m1 =>
            rw [eo] at p
            intro cls H' ρ' t em
            exact p cls H' ρ' ⟨t.ext, TX.into q1 (by simp [Sft]) t.tx, t.mem⟩ em
          | bad => rw [eo] at p; exact p.elim
        | _ => cases el
      · exact plain p
    · exact plain p
  · exact plain p
/-! ### walks of a locked dict -/
def fdcU (μ : Mem) : U → Option (List (Key × U))
  | .ref r => match μ[r]? with
    | some (.fdc kus) => some kus
    | some (.dct _) => none
    | some (.lst _) => none
    | some (.dtt _) => none
    | some (.fdt _) => none
    | some (.obj _ _) => none
    | none => none
  | _ => none
theorem fdcU_ok {K : PySem.W.Frag} {H : Hp} {ρ : List Addr} {μ : Mem} (hm : RepM K H ρ μ) {u : U} {v : V} {kus : List (Key × U)} (r : RepV K H ρ u v) (e : fdcU μ u = some kus) : ∃ a o kvs, v = .ref a ∧ H a = some (.frz o (.dK kvs)) ∧ kvs.map (·.1) = kus.map (·.1) ∧ RepVs K H ρ (kus.map (·.2)) (kvs.map (·.2)) := by
  cases r with
  | ref hr =>
    obtain ⟨c, hc, rc⟩ := hm.at hr
    simp only [fdcU, hc] at e
    cases c with
    | fdc us => cases e; obtain ⟨o, kvs, a, b, c⟩ := rc; exact ⟨_, o, kvs, rfl, a, b, c⟩
    | _ => cases e
  | _ => cases e
theorem kv_at {K : PySem.W.Frag} {H : Hp} {ρ : List Addr} {kus : List (Key × U)} {kvs : List (Key × V)} (h : kvs.map (·.1) = kus.map (·.1)) (r : RepVs K H ρ (kus.map (·.2)) (kvs.map (·.2))) {i : Nat} {k : Key} {v : V} (e : kvs[i]? = some (k, v)) : ∃ u, kus[i]? = some (k, u) ∧ RepV K H ρ u v := by
  have hl : kvs.length = kus.length := by simpa using congrArg List.length h
  have hi : i < kus.length := by rw [← hl]; exact (List.getElem?_eq_some_iff.mp e).1
  have e1 : (kus.map (·.1))[i]? = some k := by rw [← h, List.getElem?_map, e]; rfl
  rw [List.getElem?_map, List.getElem?_eq_getElem hi] at e1
  have e2 : (kus.map (·.2))[i]? = some kus[i].2 := by rw [List.getElem?_map, List.getElem?_eq_getElem hi]; rfl
  obtain ⟨v', a1, a2⟩ := r.get e2
  rw [List.getElem?_map, e] at a1
  cases a1
  simp at e1
  exact ⟨kus[i].2, by rw [List.getElem?_eq_getElem hi, ← e1], a2⟩
theorem rep_kU {K : PySem.W.Frag} {H : Hp} {ρ : List Addr} {k : Key} (hk : keyOk k = true) : RepV K H ρ (kU k) (kV k) := by
  cases k with
  | inl i => exact .int
  | inr x => exact .str hk
def itemsU (kus : List (Key × U)) : List U := kus.map fun p => .tup [kU p.1, p.2]
def keysU (kus : List (Key × U)) : List U := kus.map fun p => kU p.1
def valsU (kus : List (Key × U)) : List U := kus.map fun p => p.2
def ksOk (kus : List (Key × U)) : Bool := kus.all fun p => keyOk p.1
theorem it_items {K : PySem.W.Frag} {H : Hp} {ρ : List Addr} {d : Addr} {o : Obj} {kvs : List (Key × V)} {kus : List (Key × U)} (hd : H d = some (.frz o (.dK kvs))) (hk : kvs.map (·.1) = kus.map (·.1)) (hr : RepVs K H ρ (kus.map (·.2)) (kvs.map (·.2))) (ok : ksOk kus = true) :
    ItOk K ρ H (.seq (itemsU kus)) (Iti d o kvs) := by
  intro i ρ' H' μ' ex tx hm
  simp only [itemAt]
  have hl : kvs.length = kus.length := by simpa using congrArg List.length hk
  have hd' := tx.2 _ _ _ hd
  have hr' := hr.mono tx ex
  by_cases hi : i < kus.length
  · have e : (itemsU kus)[i]? = some (.tup [kU kus[i].1, kus[i].2]) := by simp [itemsU, hi]
    rw [e]
    refine ⟨⟨hd', by omega⟩, ?_⟩
    rintro x H'' ⟨T, k, v, q1, rfl, q2, rfl⟩
    obtain ⟨u, a1, a2⟩ := kv_at hk hr' q1
    rw [List.getElem?_eq_getElem hi] at a1
    have a3 : kus[i] = (k, u) := Option.some.inj a1
    have ek : keyOk k = true := by
      have := List.all_eq_true.mp ok kus[i] (List.getElem_mem hi)
      rw [a3] at this
      exact this
    rw [a3]
    exact ⟨Stp.temp hm q2, newT q2 (.cons (rep_kU ek) (.one a2))⟩
  · have e : (itemsU kus)[i]? = none := by simp [itemsU]; omega
    rw [e]
    exact ⟨hd', by omega⟩
theorem it_keys {K : PySem.W.Frag} {H : Hp} {ρ : List Addr} {d : Addr} {o : Obj} {kvs : List (Key × V)} {kus : List (Key × U)} (hd : H d = some (.frz o (.dK kvs))) (hk : kvs.map (·.1) = kus.map (·.1)) (hr : RepVs K H ρ (kus.map (·.2)) (kvs.map (·.2))) (ok : ksOk kus = true) :
    ItOk K ρ H (.seq (keysU kus)) (Itk d o kvs) := by
  intro i ρ' H' μ' ex tx hm
  simp only [itemAt]
  have hl : kvs.length = kus.length := by simpa using congrArg List.length hk
  have hd' := tx.2 _ _ _ hd
  have hr' := hr.mono tx ex
  by_cases hi : i < kus.length
  · have e : (keysU kus)[i]? = some (kU kus[i].1) := by simp [keysU, hi]
    rw [e]
    refine ⟨⟨hd', by omega⟩, ?_⟩
    rintro x H'' ⟨rfl, k, v, q1, rfl⟩
    obtain ⟨u, a1, a2⟩ := kv_at hk hr' q1
    rw [List.getElem?_eq_getElem hi] at a1
    have a3 : kus[i] = (k, u) := Option.some.inj a1
    have ek : keyOk k = true := by
      have := List.all_eq_true.mp ok kus[i] (List.getElem_mem hi)
      rw [a3] at this
      exact this
    rw [a3]
    exact ⟨Stp.refl hm, rep_kU ek⟩
  · have e : (keysU kus)[i]? = none := by simp [keysU]; omega
    rw [e]
    exact ⟨hd', by omega⟩
theorem it_vals {K : PySem.W.Frag} {H : Hp} {ρ : List Addr} {d : Addr} {o : Obj} {kvs : List (Key × V)} {kus : List (Key × U)} (hd : H d = some (.frz o (.dK kvs))) (hk : kvs.map (·.1) = kus.map (·.1)) (hr : RepVs K H ρ (kus.map (·.2)) (kvs.map (·.2))) :
    ItOk K ρ H (.seq (valsU kus)) (Itd d o kvs) := by
  intro i ρ' H' μ' ex tx hm
  simp only [itemAt]
  have hl : kvs.length = kus.length := by simpa using congrArg List.length hk
  have hd' := tx.2 _ _ _ hd
  have hr' := hr.mono tx ex
  by_cases hi : i < kus.length
  · have e : (valsU kus)[i]? = some (kus[i].2) := by simp [valsU, hi]
    rw [e]
    refine ⟨⟨hd', by omega⟩, ?_⟩
    rintro x H'' ⟨rfl, k, q1⟩
    obtain ⟨u, a1, a2⟩ := kv_at hk hr' q1
    rw [List.getElem?_eq_getElem hi] at a1
    have a3 : kus[i] = (k, u) := Option.some.inj a1
    rw [a3]
    exact ⟨Stp.refl hm, a2⟩
  · have e : (valsU kus)[i]? = none := by simp [valsU]; omega
    rw [e]
    exact ⟨hd', by omega⟩
def iItems (a : FE) : FI := fun s μ => (a s μ).bind fun u μ1 => match fdcU μ1 u with
  | some kus => if ksOk kus = true then .ok (.seq (itemsU kus)) μ1 else .bad
  | none => .bad
theorem ci_items {e : Expr} {me : FE} {apos cpos tpos : Pos} {elts : List Expr} {kk : Nat} (he : CE X W e me) (hbase : attributeBase e "items" X.env (eval e X.env) = eval e X.env := by rfl) (hline : (apos.endLine == cpos.line) = true := by rfl) :
    CI X W (.Tuple elts kk tpos) (.Call (.Attribute e "items" apos) [] [] cpos) (Dg.iItems me) := by
  intro ρ μ s σ H R hs hm h
  refine ⟨_, pi_items pe_w hbase hline, ?_⟩
  refine he ρ μ s σ H _ hs hm (h.bind fun u μ1 x H1 ρ1 t1 r1 h1 => ?_)
  split at h1
  · rename_i kus ek
    split at h1
    · rename_i ok
      obtain ⟨a, o, kvs, rfl, q1, q2, q3⟩ := fdcU_ok t1.mem r1 ek
      exact ⟨a, o, kvs, rfl, q1, h1.ok (Stp.refl t1.mem) (it_items q1 q2 q3 ok)⟩
    · exact h1.elim
  · exact h1.elim
def iVals (a : FE) : FI := fun s μ => (a s μ).bind fun u μ1 => match fdcU μ1 u with
  | some kus => .ok (.seq (valsU kus)) μ1
  | none => .bad
theorem ci_vals {tg e : Expr} {me : FE} {apos cpos : Pos} (he : CE X W e me) (hbase : attributeBase e "values" X.env (eval e X.env) = eval e X.env := by rfl) (hline : (apos.endLine == cpos.line) = true := by rfl) :
    CI X W tg (.Call (.Attribute e "values" apos) [] [] cpos) (Dg.iVals me) := by
  intro ρ μ s σ H R hs hm h
  refine ⟨_, pi_values pe_w hbase hline, ?_⟩
  refine he ρ μ s σ H _ hs hm (h.bind fun u μ1 x H1 ρ1 t1 r1 h1 => ?_)
  split at h1
  · rename_i kus ek
    obtain ⟨a, o, kvs, rfl, q1, q2, q3⟩ := fdcU_ok t1.mem r1 ek
    exact ⟨a, o, kvs, rfl, q1, h1.ok (Stp.refl t1.mem) (it_vals q1 q2 q3)⟩
  · exact h1.elim
/-- for k in d -/
def iKeys (a : FE) : FI := fun s μ => (a s μ).bind fun u μ1 => match fdcU μ1 u with
  | some kus => if ksOk kus = true then .ok (.seq (keysU kus)) μ1 else .bad
  | none => .bad
theorem ci_keys {tg e : Expr} {me : FE} (he : CE X W e me) : CI X W tg e (Dg.iKeys me) := by
  intro ρ μ s σ H R hs hm h
  refine ⟨_, pi_keys pe_w, ?_⟩
  refine he ρ μ s σ H _ hs hm (h.bind fun u μ1 x H1 ρ1 t1 r1 h1 => ?_)
  split at h1
  · rename_i kus ek
    split at h1
    · rename_i ok
      obtain ⟨a, o, kvs, rfl, q1, q2, q3⟩ := fdcU_ok t1.mem r1 ek
      exact ⟨a, o, rfl, .inl ⟨kvs, q1, h1.ok (Stp.refl t1.mem) (it_keys q1 q2 q3 ok)⟩⟩
    · exact h1.elim
  · exact h1.elim
/-! ### d.get(k, x) -/
def rdU (μ : Mem) : U → Option (List (Key × U))
  | .ref r => match μ[r]? with
    | some (.fdc kus) => some kus
    | some (.dct kus) => some kus
    | some (.lst _) => none
    | some (.dtt _) => none
    | some (.fdt _) => none
    | some (.obj _ _) => none
    | none => none
  | _ => none
theorem rdU_ok {K : PySem.W.Frag} {H : Hp} {ρ : List Addr} {μ : Mem} (hm : RepM K H ρ μ) {u : U} {v : V} {kus : List (Key × U)} (r : RepV K H ρ u v) (e : rdU μ u = some kus) : ∃ a kvs, v = .ref a ∧ Rd H a (.dK kvs) ∧ RepKV K H ρ kus kvs := by
  cases r with
  | ref hr =>
    obtain ⟨c, hc, rc⟩ := hm.at hr
    simp only [rdU, hc] at e
    cases c with
    | fdc us => cases e; obtain ⟨o, kvs, a, b, c⟩ := rc; exact ⟨_, kvs, rfl, .inr ⟨o, a⟩, b, c⟩
    | dct us => cases e; obtain ⟨kvs, a, b, c⟩ := rc; exact ⟨_, kvs, rfl, .inl a, b, c⟩
    | _ => cases e
  | _ => cases e
def fGet (d a b : FE) : FE := fun s μ => (d s μ).bind fun x μ1 => match rdU μ1 x with
  | none => .bad
  | some _ => (a s μ1).bind fun y μ2 => (b s μ2).bind fun z μ3 => match rdU μ3 x, keyU y with
    | some kus, some k => .ok ((valU kus k).getD z) μ3
    | _, _ => .bad
theorem ce_get {d e f : Expr} {md me mf : FE} {apos cpos : Pos} (G : Good X W (k + 40)) (hd : CE X W d md) (he : CE X W e me) (hf : CE X W f mf) (m : M2 X d "get" apos e f cpos) :
    CE X W (.Call (.Attribute d "get" apos) [e, f] [] cpos) (fGet md me mf) := by
  intro ρ μ s σ H Q hs hm h
  refine ⟨_, pe_dget2 G.hu pe_w pe_w pe_w m, ?_⟩
  refine hd ρ μ s σ H _ hs hm (h.bind fun x μ1 xv H1 ρ1 t1 r1 h1 => ?_)
  cases ex : rdU μ1 x with
  | none => rw [ex] at h1; exact h1.elim
  | some kus0 =>
    rw [ex] at h1
    obtain ⟨a, kvs, rfl, q1, _⟩ := rdU_ok t1.mem r1 ex
    refine ⟨a, rfl, ?_, ?_⟩
    · exact .inl ⟨kvs, q1⟩
    · refine he ρ1 μ1 s σ H1 _ (t1.s hs) t1.mem (h1.bind fun y μ2 yv H2 ρ2 t2 r2 h2 => ?_)
      refine hf ρ2 μ2 s σ H2 _ (t2.s (t1.s hs)) t2.mem (h2.bind fun z μ3 zv H3 ρ3 t3 r3 h3 => ?_)
      split at h3
      · rename_i kus k' e1 e2
        obtain ⟨a', kvs', ea, q2, rk⟩ := rdU_ok t3.mem (t3.v (t2.v r1)) e1
        cases ea
        refine ⟨valV kvs' k', .inl ⟨kvs', k', q2, keyU_ok (t3.v r2) e2, rfl⟩, ?_⟩
        have hv := rk.val (k := k')
        cases ev : valU kus k' with
        | none =>
          rw [ev] at h3
          rw [hv.2 ev]
          exact h3.ok (Stp.refl t3.mem) r3
        | some u =>
          rw [ev] at h3
          obtain ⟨v, b1, b2⟩ := hv.1 u ev
          rw [b1]
          exact h3.ok (Stp.refl t3.mem) b2
      · exact h3.elim
end
end Dg
/-! Dg15: try .. except C as e: any suite that asks e by isinstance alone. -/
namespace Dg
open PySem PySem.Spec PyProof.Rows L2 RZ
theorem fa_nil {α : Type} {P : α → Prop} : ∀ y ∈ ([] : List α), P y := fun y hy => nomatch hy
theorem fa_cons {α : Type} {P : α → Prop} {x : α} {l : List α} (h : P x) (r : ∀ y ∈ l, P y) : ∀ y ∈ x :: l, P y := by
  intro y hy
  rcases List.mem_cons.mp hy with rfl | hy
  · exact h
  · exact r y hy
/-! ### isinstance(e, (A, B)) -/
theorem call_isET {X : Cx} {a D : Addr} {oe : Obj} {pn : List (Addr × Obj)} (C : ExcC X.K D) (hz : Zc (.ref D) none oe) (hf : ∃ vs, oe.data = .fields vs) :
    CallR (X.suite a ((a, oe) :: pn)) (.builtin "isinstance") (fun xs H Q => ∃ (T : Addr) (cs : List Addr) (b : Bool), xs = [.ref a, .ref T] ∧ H T = some (.tup (cs.map V.ref)) ∧ PySem.W.kitAny X.K (.ref D) (cs.map Value.ref) = some b ∧ Q (.bl b) H) := by
  intro pins s σ H xs us Q I r h
  obtain ⟨T, cs, b, rfl, hT, e, q⟩ := h
  cases r with
  | cons rx rr =>
    cases rr with
    | cons rt rr =>
      cases rr
      cases rx
      cases rt
      obtain ⟨hget, _⟩ := I.pin (a, oe) (List.mem_append.mpr (.inl List.mem_cons_self))
      obtain ⟨vs, hv⟩ := hf
      have J : PySem.W.InstAt s.heap a oe D none := by
        obtain ⟨oc, od, oda, osl⟩ := oe
        obtain ⟨h1, h2⟩ := hz
        dsimp only at h1 h2 hv
        subst h1 h2 hv
        exact ⟨hget, rfl, rfl, trivial⟩
      obtain ⟨hlen, its, rv, o, h1, h2, n, h3⟩ := (show ObjOk X.prog X.w H s.heap T (.tup (cs.map V.ref)) from I.hok T _ hT)
      have e3 : its = cs.map Value.ref := by
        clear e hT h3 q h1 h2 hlen
        induction cs generalizing its with
        | nil => cases rv; rfl
        | cons c cs ih =>
          cases rv with
          | cons r1 r2 =>
            cases r1
            rw [ih _ r2]
            rfl
      subst e3
      obtain ⟨oc, od, dt, sl⟩ := o
      simp only at h2 h3
      subst h2 h3
      exact PySem.W.kia_tup (PySem.W.handS_kitx_exc C.hg C.hk C.hs C.hd C.ha C.hn C.ht C.hm) I.kIn J h1 e (fun z => nomatch z) fun tk => ⟨.bl b, H, I.kept (t' := tk) fun _ _ z => z, rfl, q⟩
/-- the class x among the classes ys, or not -/
def IsxT (K : PySem.W.Frag) (mg : Str → Option Value) (x : Str) (ys : List Str) (b : Bool) : Prop := ∃ (D : Addr) (Cs : List Addr), mg x = some (.ref D) ∧ ExcC K D ∧ Paired (fun (y : Str) (C : Addr) => mg y = some (.ref C)) ys Cs ∧ PySem.W.kitAny K (.ref D) (Cs.map Value.ref) = some b
theorem isxT_one {K : PySem.W.Frag} {mg : Str → Option Value} {x y : Str} {b : Bool} (h : Isx K mg x y b) : IsxT K mg x [y] b := by
  obtain ⟨D, C, h1, h2, h3, h4⟩ := h
  refine ⟨D, [C], h1, h3, .cons h2 .nil, ?_⟩
  show PySem.W.kitAny K (.ref D) [.ref C] = some b
  cases b with
  | true => exact kitAny_cons h4 (fun z => nomatch z) (fun _ => rfl)
  | false => exact kitAny_cons h4 (fun _ => rfl) (fun z => nomatch z)
theorem isxT_cons {K : PySem.W.Frag} {mg : Str → Option Value} {x y : Str} {b c : Bool} {ys : List Str} (h : Isx K mg x y b) (r : IsxT K mg x ys c) : IsxT K mg x (y :: ys) (b || c) := by
  obtain ⟨D, C, h1, h2, h3, h4⟩ := h
  obtain ⟨D2, Cs, r1, r2, r3, r4⟩ := r
  rw [h1] at r1
  cases r1
  refine ⟨D, C :: Cs, h1, h3, .cons h2 r3, ?_⟩
  show PySem.W.kitAny K (.ref D) (.ref C :: Cs.map Value.ref) = some (b || c)
  cases b with
  | true => exact kitAny_cons h4 (fun z => nomatch z) (fun _ => rfl)
  | false => exact kitAny_cons h4 (fun _ => by simpa using r4) (fun z => nomatch z)
theorem isxT_tab0 {K : PySem.W.Frag} {mg : Str → Option Value} {ys : List Str} : ∀ q ∈ ([] : List (Str × Bool)), IsxT K mg q.1 ys q.2 := fun q hq => nomatch hq
theorem isxT_tab {K : PySem.W.Frag} {mg : Str → Option Value} {x : Str} {ys : List Str} {b : Bool} {l : List (Str × Bool)} (h : IsxT K mg x ys b) (r : ∀ q ∈ l, IsxT K mg q.1 ys q.2) : ∀ q ∈ ((x, b) :: l), IsxT K mg q.1 ys q.2 := by
  intro q hq
  rcases List.mem_cons.mp hq with rfl | hq
  · exact h
  · exact r q hq
section
variable {X : Cx} {W : WX} {k i : Nat} {a : Addr}
/-- names of classes as arguments of a display -/
def names (ys : List Str) (ps : List Pos) : List Expr := (ys.zip ps).map fun p => Expr.Name p.1 p.2
theorem pa_names {X : Cx} {ys : List Str} {ps : List Pos} {Cs : List Addr} (hl : ys.length = ps.length) (hp : Paired (fun (y : Str) (C : Addr) => X.mg y = some (.ref C)) ys Cs) (hg : ∀ y ∈ ys, Gl X y) (hd : ∀ y ∈ ys, (y == ("__debug__" : Str)) = false)
    (hse : ∀ (y : Str) (p : Pos) (es : List Expr), starEach (.Name y p :: es) X.env = (false, eval (.Name y p) X.env) :: starEach es X.env) :
    ∃ t, PA X (names ys ps) t ∧ ∀ σ H (Q : List V → Hp → Prop), Q (Cs.map V.ref) H → t σ H Q := by
  induction hp generalizing ps with
  | nil => cases ps with
    | nil => exact ⟨_, pa_nil, fun σ H Q q => q⟩
    | cons p ps => cases hl
  | @cons y C ys Cs h r ih =>
    cases ps with
    | nil => cases hl
    | cons p ps =>
      obtain ⟨t, h1, h2⟩ := ih (ps := ps) (by simpa using hl) (fun y hy => hg y (by simp [hy])) (fun y hy => hd y (by simp [hy]))
      refine ⟨_, pa_cons (pe_glob (hg y (by simp)) h (v := .ref C) rfl (hd y (by simp))) h1 (hse _ _ _), fun σ H Q q => ?_⟩
      exact h2 σ H _ q
theorem at_isXT {D : Addr} {oe : Obj} {pn : List (Addr × Obj)} {n c : Str} {ys : List Str} {ps : List Pos} {tab : List (Str × Bool)} {p p1 tpos pos : Pos} {kk : Nat} (ht : ∀ q ∈ tab, IsxT X.K X.mg q.1 ys q.2) (hc : X.mg c = some (.ref D)) (hz : Zc (.ref D) none oe) (hf : ∃ vs, oe.data = .fields vs)
    (hN : X.N[i]? = some n) (hv : Vis X.env.scope n) (hl : ys.length = ps.length) (hgy : ∀ y ∈ ys, Gl X y) (hdy : ∀ y ∈ ys, (y == ("__debug__" : Str)) = false) (hg : Gl X "isinstance") (hm0 : X.mg "isinstance" = none) (hlen : ys.length ≤ 100)
    (hd : (n == ("__debug__" : Str)) = false := by decide) (hcd : (n == ("__classdict__" : Str)) = false := by decide)
    (hse : ∀ (y : Str) (p : Pos) (es : List Expr), starEach (.Name y p :: es) (X.suite a ((a, oe) :: pn)).env = (false, eval (.Name y p) (X.suite a ((a, oe) :: pn)).env) :: starEach es (X.suite a ((a, oe) :: pn)).env)
    (he : starEach [.Name n p1, .Tuple (names ys ps) kk tpos] (X.suite a ((a, oe) :: pn)).env = (false, eval (.Name n p1) (X.suite a ((a, oe) :: pn)).env) :: starEach [.Tuple (names ys ps) kk tpos] (X.suite a ((a, oe) :: pn)).env := by rfl)
    (he2 : starEach [.Tuple (names ys ps) kk tpos] (X.suite a ((a, oe) :: pn)).env = (false, eval (.Tuple (names ys ps) kk tpos) (X.suite a ((a, oe) :: pn)).env) :: starEach [] (X.suite a ((a, oe) :: pn)).env := by rfl)
    (hpl : (backTo pos (starEach [.Tuple (names ys ps) kk tpos] (X.suite a ((a, oe) :: pn)).env)).any (·.1) = false := by rfl) :
    CEat (X.suite a ((a, oe) :: pn)) W i a (.Call (.Name "isinstance" p) [.Name n p1, .Tuple (names ys ps) kk tpos] [] pos) (fIsX tab c) := by
  unfold fIsX
  cases hlk : tab.lookup c with
  | none => exact fun ρ μ s σ H Q _ _ _ q => q.elim
  | some b =>
    obtain ⟨D2, Cs, e1, e3, e4, e5⟩ := ht (c, b) (lookup_mem hlk)
    simp only at e1 e3 e4 e5
    rw [hc] at e1
    cases e1
    intro ρ μ s σ H Q hi hs hm h
    have hv1 : PE (X.suite a ((a, oe) :: pn)) (.Name n p1) (tVar i) := pe_var hN hv hd hcd
    obtain ⟨t, g1, g2⟩ := pa_names (X := X.suite a ((a, oe) :: pn)) hl e4 hgy hdy hse
    refine ⟨_, pe_callB (call_isET e3 hz hf) hg hm0 bt_isinstance (pa_cons hv1 (pa_cons (pe_tup g1) pa_nil he2) he) (he := he) (hpl := hpl), ?_⟩
    refine ⟨.ref a, hi, ?_⟩
    refine g2 σ H _ ⟨?_, fun T np => ?_⟩
    · have := Paired.length e4
      simp only [List.length_map]
      rw [← this]
      exact lim_le (by simp [lim]; omega)
    · exact ⟨T, Cs, b, rfl, upd_same, e5, h.ok (Stp.temp hm np) .bl⟩
/-! ### tests where slot i holds a -/
def CTat (X : Cx) (W : WX) (i : Nat) (a : Addr) (e : Expr) (m : FT) : Prop := ∀ ρ μ s σ H Q, σ[i]? = some (some (.ref a)) → RepS X.K H ρ s σ → RepM X.K H ρ μ → Post X W σ relB ρ H (m s μ) Q → WT X e σ H Q
def CWat (X : Cx) (W : WX) (i : Nat) (a : Addr) (e : Expr) (m : FT) : Prop := ∀ ρ μ s σ H Q, σ[i]? = some (some (.ref a)) → RepS X.K H ρ s σ → RepM X.K H ρ μ → Post X W σ relB ρ H (m s μ) Q → WW X e σ H Q
theorem tat_of {e : Expr} {m : FT} (h : CT X W e m) : CTat X W i a e m := fun ρ μ s σ H Q _ hs hm q => h ρ μ s σ H Q hs hm q
theorem tat_val {e : Expr} {ma : FE} (ha : CEat X W i a e ma) (he : ∀ whole, isTrue e X.env whole = (do let v ← whole; standAt e.pos; holding [v] (truthy v)) := by intro _; rfl) : CTat X W i a e (tst ma) := by
  intro ρ μ s σ H Q hi hs hm h
  refine ⟨_, pt_truth pe_w he, ?_⟩
  refine ha ρ μ s σ H _ hi hs hm (h.bind fun u μ1 x H1 ρ1 t1 r1 h1 => ?_)
  cases e : truU μ1 u with
  | none => rw [e] at h1; exact h1.elim
  | some b =>
    rw [e] at h1
    exact ⟨b, truU_ok t1.mem r1 e, h1.ok (Stp.refl t1.mem) rfl⟩
theorem tat_not {e : Expr} {ta : FT} {pos : Pos} (ha : CTat X W i a e ta) : CTat X W i a (.UnaryOp .Not e pos) (tNt ta) := by
  intro ρ μ s σ H Q hi hs hm h
  refine ⟨_, pt_not pt_w, ?_⟩
  refine ha ρ μ s σ H _ hi hs hm (h.bind fun b μ1 x H1 ρ1 t1 r1 h1 => ?_)
  cases r1
  exact h1.ok (Stp.refl t1.mem) rfl
theorem CWat.ct {e : Expr} {m : FT} (h : CWat X W i a e m) : CTat X W i a e m := fun ρ μ s σ H Q hi hs hm p => by
  obtain ⟨t, h1, h2⟩ := h ρ μ s σ H Q hi hs hm p
  exact ⟨t, h1.pt, h2⟩
theorem wat_and1 {e : Expr} {ta : FT} {pos : Pos} (ha : CTat X W i a e ta) : CWat X W i a (.BoolOp .And [e] pos) ta := fun ρ μ s σ H Q hi hs hm p => ⟨_, pw_and1 pt_w, ha ρ μ s σ H Q hi hs hm p⟩
theorem wat_or1 {e : Expr} {ta : FT} {pos : Pos} (ha : CTat X W i a e ta) : CWat X W i a (.BoolOp .Or [e] pos) ta := fun ρ μ s σ H Q hi hs hm p => ⟨_, pw_or1 pt_w, ha ρ μ s σ H Q hi hs hm p⟩
theorem wat_and {e b : Expr} {rest : List Expr} {ta tb : FT} {pos : Pos} (ha : CTat X W i a e ta) (hb : CWat X W i a (.BoolOp .And (b :: rest) pos) tb) : CWat X W i a (.BoolOp .And (e :: b :: rest) pos) (tAn ta tb) := by
  intro ρ μ s σ H Q hi hs hm h
  refine ⟨_, pw_and pt_w pw_w, ?_⟩
  refine ha ρ μ s σ H _ hi hs hm (h.bind fun b μ1 x H1 ρ1 t1 r1 h1 => ?_)
  cases r1
  cases b with
  | true => exact iteT (hb ρ1 μ1 s σ H1 Q hi (t1.s hs) t1.mem h1)
  | false => exact iteF (h1.ok (Stp.refl t1.mem) rfl)
theorem wat_or {e b : Expr} {rest : List Expr} {ta tb : FT} {pos : Pos} (ha : CTat X W i a e ta) (hb : CWat X W i a (.BoolOp .Or (b :: rest) pos) tb) : CWat X W i a (.BoolOp .Or (e :: b :: rest) pos) (tOr' ta tb) := by
  intro ρ μ s σ H Q hi hs hm h
  refine ⟨_, pw_or pt_w pw_w, ?_⟩
  refine ha ρ μ s σ H _ hi hs hm (h.bind fun b μ1 x H1 ρ1 t1 r1 h1 => ?_)
  cases r1
  cases b with
  | true => exact iteT (h1.ok (Stp.refl t1.mem) rfl)
  | false => exact iteF (hb ρ1 μ1 s σ H1 Q hi (t1.s hs) t1.mem h1)
/-! ### statements where slot i holds a, and goes on to hold it -/
def PostSat (X : Cx) (W : WX) (i : Nat) (a : Addr) (ρ : List Addr) (H : Hp) (o : Out) (D : Ends) : Prop := match o with
  | .nx s' μ' => ∀ σ' H' ρ', Stp X.K ρ H ρ' H' μ' → RepS X.K H' ρ' s' σ' → σ'[i]? = some (some (.ref a)) → D.nx σ' H'
  | o => PostS X W ρ H o D
theorem PostSat.from {ρ ρ1 : List Addr} {H H1 : Hp} {μ1 : Mem} {o : Out} {D : Ends} (t : Stp X.K ρ H ρ1 H1 μ1) (h : PostSat X W i a ρ H o D) : PostSat X W i a ρ1 H1 o D := by
  cases o with
  | nx s m => exact fun σ' H' ρ' t' r e => h σ' H' ρ' (t.trans t') r e
  | rt u m => exact PostS.from (W := W) (D := D) t (o := .rt u m) h
  | bk s m => exact PostS.from (W := W) (D := D) t (o := .bk s m) h
  | ct s m => exact PostS.from (W := W) (D := D) t (o := .ct s m) h
  | ex c s m => exact PostS.from (W := W) (D := D) t (o := .ex c s m) h
  | bad => exact h
theorem PostSat.bind {α β : Type} {σ : L2.St} {rel : RelT α β} {ρ : List Addr} {H : Hp} {r : Res α} {s : Slots} {k : α → Mem → Out} {D : Ends} {Q1 : β → Hp → Prop} (hs : RepS X.K H ρ s σ)
    (h : PostSat X W i a ρ H (ofR r s k) D) (hk : ∀ b μ1 x H1 ρ1, Stp X.K ρ H ρ1 H1 μ1 → rel X.K H1 ρ1 b x → PostSat X W i a ρ1 H1 (k b μ1) D → Q1 x H1) : Post X W σ rel ρ H r Q1 := by
  cases r with
  | ok b m =>
    intro v H' ρ' t q
    exact hk b m v H' ρ' t q (PostSat.from t h)
  | ex c m =>
    have h' : PostS X W ρ H (.ex c s m) D := h
    exact fun cls H' ρ' t e => h' cls σ H' ρ' t (t.s hs) e
  | bad => exact h
def CSat (X : Cx) (W : WX) (i : Nat) (a : Addr) (st : Stmt) (m : FS) : Prop := ∀ ρ μ s σ H D, σ[i]? = some (some (.ref a)) → RepS X.K H ρ s σ → RepM X.K H ρ μ → PostSat X W i a ρ H (m s μ) D → WS X st D σ H
def CSsat (X : Cx) (W : WX) (i : Nat) (a : Addr) (st : List Stmt) (m : FS) : Prop := ∀ ρ μ s σ H D, σ[i]? = some (some (.ref a)) → RepS X.K H ρ s σ → RepM X.K H ρ μ → PostSat X W i a ρ H (m s μ) D → WSs X st D σ H
theorem ssat_nil : CSsat X W i a [] sNext := fun ρ μ s σ H D hi hs hm h => ⟨_, pss_nil, h σ H ρ (Stp.refl hm) hs hi⟩
theorem ssat_one {st : Stmt} {m : FS} (ha : CSat X W i a st m) : CSsat X W i a [st] m := fun ρ μ s σ H D hi hs hm h => ⟨_, pss_one ps_w, ha ρ μ s σ H D hi hs hm h⟩
theorem ssat_cons {st : Stmt} {rest : List Stmt} {m n : FS} (ha : CSat X W i a st m) (hb : CSsat X W i a rest n) : CSsat X W i a (st :: rest) (sSeq m n) := by
  intro ρ μ s σ H D hi hs hm h
  refine ⟨_, pss_cons ps_w pss_w, ?_⟩
  refine ha ρ μ s σ H _ hi hs hm ?_
  unfold sSeq at h
  cases e : m s μ with
  | nx s1 μ1 =>
    rw [e] at h
    intro σ' H' ρ' t r hi'
    exact hb ρ' μ1 s1 σ' H' D hi' r t.mem (PostSat.from t h)
  | rt u m => rw [e] at h; exact h
  | bk u m => rw [e] at h; exact h
  | ct u m => rw [e] at h; exact h
  | ex c u m => rw [e] at h; exact h
  | bad => rw [e] at h; exact h
theorem sat_set {j : Nat} {x : Str} {e : Expr} {me : FE} {pos pos' : Pos} (hij : j ≠ i) (hN : X.N.Nodup) (hj : X.N[j]? = some x) (hx : Loc X.env.scope x) (he : CEat X W i a e me) (hs0 : swapsWith e (some (.Name x pos')) pos.line X.env = pure false := by rfl)
    (hf : X.fn x = true ∨ X.env.scope.names.lookup x = some .local := by first | exact .inl rfl | exact .inr rfl | assumption) : CSat X W i a (.Assign [.Name x pos'] e pos) (sAsg (.one j) me) := by
  intro ρ μ s σ H D hi hs hm h
  refine ⟨_, ps_set hN hj hx pe_w hs0 hf, ?_⟩
  exact he ρ μ s σ H _ hi hs hm (PostSat.bind hs h fun u μ1 x H1 ρ1 t1 r1 h1 => h1 _ H1 ρ1 (Stp.refl t1.mem) ((t1.s hs).set r1) (by rw [List.getElem?_set_ne hij]; exact hi))
theorem sat_ret {e : Expr} {me : FE} {pos : Pos} (he : CEat X W i a e me) : CSat X W i a (.Return (some e) pos) (sRet me) := by
  intro ρ μ s σ H D hi hs hm h
  refine ⟨_, ps_ret pe_w, ?_⟩
  exact he ρ μ s σ H _ hi hs hm (PostSat.bind hs h fun u μ1 x H1 ρ1 t1 r1 h1 => h1 x H1 ρ1 (Stp.refl t1.mem) r1)
theorem sat_expr {e : Expr} {me : FE} {pos : Pos} (he : CEat X W i a e me) (hs0 : swapsWith e none pos.line X.env = pure false := by rfl) : CSat X W i a (.Expr e pos) (sExpr me) := by
  intro ρ μ s σ H D hi hs hm h
  refine ⟨_, ps_expr pe_w hs0, ?_⟩
  exact he ρ μ s σ H _ hi hs hm (PostSat.bind hs h fun u μ1 x H1 ρ1 t1 r1 h1 => h1 _ H1 ρ1 (Stp.refl t1.mem) (t1.s hs) hi)
theorem sat_if {c : Expr} {p q : List Stmt} {tc : FT} {m n : FS} {pos : Pos} (hc : CTat X W i a c tc) (ha : CSsat X W i a p m) (hb : CSsat X W i a q n) : CSat X W i a (.If c p q pos) (sIf tc m n) := by
  intro ρ μ s σ H D hi hs hm h
  refine ⟨_, ps_if pt_w pss_w pss_w, ?_⟩
  refine hc ρ μ s σ H _ hi hs hm (PostSat.bind hs h fun b μ1 x H1 ρ1 t1 r1 h1 => ?_)
  cases r1
  cases b with
  | true => exact iteT (ha ρ1 μ1 s σ H1 D hi (t1.s hs) t1.mem h1)
  | false => exact iteF (hb ρ1 μ1 s σ H1 D hi (t1.s hs) t1.mem h1)
/-! ### the statement -/
def hideO (i : Nat) (o : Out) : Out := match o with
  | .nx s μ => .nx (s.set i none) μ
  | .bk s μ => .bk (s.set i none) μ
  | .ct s μ => .ct (s.set i none) μ
  | o => o
def sTryG (tab : List (Str × Bool)) (i : Nat) (body : FS) (ms : Str → FS) : FS := fun s μ => match body s μ with
  | .ex c s1 μ1 => match tab.lookup c with
    | some true => if i < s1.length then hideO i (ms c (s1.set i none) μ1) else .bad
    | some false => .ex c s1 μ1
    | none => .bad
  | o => o
theorem cs_tryG_end {a0 : Addr} {oe : Obj} {pn2 : List (Addr × Obj)} {b₀ : Stmt} {suite : List Stmt} {m : FS} {ρ ρ' : List Addr} {H H' : Hp} {s1 : Slots} {m1 : Mem} {σ' : L2.St} {D : Ends} (hce : CSsat (X.suite a0 ((a0, oe) :: pn2)) W i a0 (b₀ :: suite) m) (hlt : i < s1.length) (r : RepS X.K H' ρ' s1 σ') (t : Stp X.K ρ H ρ' H' m1)
    (h : PostS X W ρ H (hideO i (m (s1.set i none) m1)) D) : WSs (X.suite a0 ((a0, oe) :: pn2)) (b₀ :: suite) { nx := fun σ' H' => D.nx (σ'.set i none) H', rt := D.rt, bk := fun σ' H' => D.bk (σ'.set i none) H', ct := fun σ' H' => D.ct (σ'.set i none) H' } (σ'.set i (some (.ref a0))) H' := by
  have r2 := r.hide i (some (.ref a0))
  have hl : i < σ'.length := by rw [← r.len]; exact hlt
  have hz2 : (σ'.set i (some (V.ref a0)))[i]? = some (some (.ref a0)) := by rw [List.getElem?_set_self hl]
  have h' := PostS.from t h
  refine hce ρ' m1 _ _ H' _ hz2 r2 t.mem ?_
  cases em : m (s1.set i none) m1 with
  | nx s2 m2 =>
    rw [em] at h'
    intro σ2 H2 ρ2 t2 rs2 _
    exact h' (σ2.set i none) H2 ρ2 t2 (rs2.hide i none)
  | rt u m2 => rw [em] at h'; exact h'
  | bk s2 m2 =>
    rw [em] at h'
    intro σ2 H2 ρ2 t2 rs2
    exact h' (σ2.set i none) H2 ρ2 t2 (rs2.hide i none)
  | ct s2 m2 =>
    rw [em] at h'
    intro σ2 H2 ρ2 t2 rs2
    exact h' (σ2.set i none) H2 ρ2 t2 (rs2.hide i none)
  | ex c s2 m2 => rw [em] at h'; exact h'
  | bad => rw [em] at h'; exact h'
theorem cs_tryG {x n : Str} {body suite : List Stmt} {b₀ : Stmt} {np pos pos' : Pos} {tab : List (Str × Bool)} {mb : FS} {ms : Str → FS} (G : Good X W k) (hN : X.N.Nodup) (hi : X.N[i]? = some n) (hln : X.env.kindOf n = some .local) (hx : Exn X.K X.mg x) (hg : Gl X x)
    (htab : ∀ q ∈ tab, Exm X.K X.mg q.1 x q.2)
    (hb : ∀ (W' : WX) (pn : List (Addr × Obj)) (xe : Value → Shared → Prop), Good (X.tr pn xe) W' k → CSs (X.tr pn xe) W' body mb)
    (hsu : ∀ (c : Str) (C a : Addr) (oe : Obj) (pn : List (Addr × Obj)), (c, true) ∈ tab → X.mg c = some (.ref C) → Zc (.ref C) none oe → (∃ vs, oe.data = .fields vs) → CSsat (X.suite a ((a, oe) :: pn)) W i a (b₀ :: suite) (ms c))
    (hst : X.stack = X.env :: X.outer := by rfl) (hfr : X.env.frame = some X.env.locals := by rfl) (hdb : (x == ("__debug__" : Str)) = false := by decide) :
    CS X W (.Try body [.ExceptHandler (some (.Name x np)) (some n) (b₀ :: suite) pos'] [] [] pos) (sTryG tab i mb ms) := by
  obtain ⟨C, h1, _⟩ := hx
  intro ρ μ s σ H D hs hm h
  refine ⟨_, ps_try_as (c := .ref C) hst hfr hN hi hln ⟨hg, hdb, .inl h1⟩ (Wout := W) (tb := fun W' D σ H => ∀ pn xe, Takes (X.tr pn xe) W' → PassesOwn (model X.prog X.w) X.A X.env xe → WSs (X.tr pn xe) body D σ H)
    (ts := fun a cls d D σ H => ∀ oe pn, Zc cls d oe → (∃ vs, oe.data = .fields vs) → WSs (X.suite a ((a, oe) :: pn)) (b₀ :: suite) D σ H) G.tk
    (fun W' pn xe tk' po => ⟨fun pins s σ H D I h => pss_w.run pins s σ H D I (h pn xe tk' po)⟩) (fun a oe cls d pn hz hf => ⟨fun pins s σ H D I h => pss_w.run pins s σ H D I (h oe pn hz hf)⟩), ?_⟩
  intro pn xe tk' po
  refine hb _ pn xe (G.tr tk' po) ρ μ s σ H D hs hm ?_
  unfold sTryG at h
  cases eb : mb s μ with
  | nx s1 m1 => rw [eb] at h; exact h
  | rt u m1 => rw [eb] at h; exact h
  | bk s1 m1 => rw [eb] at h; exact h
  | ct s1 m1 => rw [eb] at h; exact h
  | bad => rw [eb] at h; exact h
  | ex c' s1 m1 =>
    rw [eb] at h
    simp only at h
    intro cls σ' H' ρ' t r em
    cases hl : tab.lookup c' with
    | none => rw [hl] at h; exact h.elim
    | some b =>
      rw [hl] at h
      obtain ⟨Cx, Cy, e1, e2, e3⟩ := htab (c', b) (lookup_mem hl)
      simp only at e1 e2 e3
      have em' : X.mg c' = some cls := em
      rw [em'] at e1
      cases e1
      rw [h1] at e2
      cases e2
      refine ⟨b, e3, ?_, ?_⟩
      · rintro rfl a0 ha oe pn2 hz hf
        simp only at h
        split at h
        · rename_i hlt
          exact cs_tryG_end (hsu c' Cx a0 oe pn2 (lookup_mem hl) em' hz hf) hlt r t h
        · exact h.elim
      · rintro rfl
        exact h _ σ' H' ρ' t r em
end
end Dg
/-! Lz: list(zip(a, b)) of two tuples. -/
namespace Lz
open PySem PySem.Spec PyProof.Rows L2 RZ PySem.W
open PySem.Sem (wp)
/-- the zip whose last pair T is still held by somebody -/
abbrev Zo (h : Heap) (z TI TO T : Addr) (f : Bool) : Prop :=
  h.get? z = some { cls := .type "zip", dict := none, data := .fields #[rawInt T, .bool f, .bool false, .ref TI, .ref TO], slots := #[] }
section
variable {prog : Program} {w : World} {A : Around} {E : Value → Shared → Prop} {s : Shared}
variable {z TI TO i1 i2 l1 l2 T : Addr} {f : Bool} {k : Nat} {xs ys : Array Value} {oT : Obj}

theorem free_out {Q : Bool → Shared → Prop} (hz : Zo s.heap z TI TO T f) (hT : s.heap.get? T = some oT)
    (h : ∀ g, Zo g z TI TO T true → Heap.SameBut z s.heap g → Q false { s with heap := g }) : wpAny (model prog w) A (Builtin.SmallTypes.ownedTupleIsFree (.ref z)) Q E s := by
  unfold Builtin.SmallTypes.ownedTupleIsFree
  refine wpAny_bind (wpAny_field hz rfl (x := rawInt T) rfl ?_)
  show wpAny _ _ (loadIfAlive ((T : Int).toNat) >>= _) _ _ _
  rw [Int.toNat_natCast]
  refine wpAny_bind (kdx_alive hT ?_)
  simp only [Option.isNone_some, Bool.false_eq_true, if_false]
  refine wpAny_bind (wpAny_field hz rfl (x := .bool f) rfl ?_)
  cases f with
  | true =>
    rw [if_neg (show ¬ ((Value.bool true != Value.bool true) = true) from Bool.false_ne_true)]
    exact wpAny_pure (h _ hz (Heap.SameBut.refl _ _))
  | false =>
    rw [if_pos (show (Value.bool false != Value.bool true) = true from rfl)]
    exact wpAny_bind (wpAny_setField_rec hz (by simp) fun g e sb => wpAny_pure (h g e sb))

theorem next_out {Q : Option Value → Shared → Prop} {x y : Value} (D : ZipApart z TI TO i1 i2 l1 l2) (hz : Zo s.heap z TI TO T f) (hT : s.heap.get? T = some oT) (hTI : IsPair s.heap TI (.ref i1) (.ref i2))
    (h1 : s.heap.IsTupleIter i1 l1 k) (h2 : s.heap.IsTupleIter i2 l2 k) (p1 : s.heap.IsTuple l1 xs) (p2 : s.heap.IsTuple l2 ys) (hx : xs[k]? = some x) (hy : ys[k]? = some y)
    (hQ : ∀ g, Zo g z TI TO T true → g.IsTupleIter i1 l1 (k + 1) → g.IsTupleIter i2 l2 (k + 1) → IsPair g s.heap.objs.size x y → g.objs.size = s.heap.objs.size + 1 →
      (∀ c o, c ≠ z → c ≠ i1 → c ≠ i2 → s.heap.get? c = some o → g.get? c = some o) → Q (some (.ref s.heap.objs.size)) { s with heap := g }) : wpAny (model prog w) A (pyNext (.ref z)) Q E s := by
  have ty : s.TypeIs (.ref z) "zip" := ⟨_, hz, rfl⟩
  unfold pyNext
  refine wpAny_bind (wpAny_attempt (wpAny_callSpecial?_slot (name := Str.ofString "__next__") ty F.slot_zip_next (wpAny_call_entry F.slot_zip_next ty F.entry_zip_next ?_ (F.args_zip_next_1 _))))
  show wpAny _ _ (field (.ref z) 2 >>= _) _ _ _
  refine wpAny_bind (wpAny_field hz rfl (x := .bool false) rfl ?_)
  show wpAny _ _ (field (.ref z) 3 >>= _) _ _ _
  refine wpAny_bind (wpAny_field hz rfl (x := .ref TI) rfl ?_)
  refine wpAny_bind (wpAny_seqItems hTI rfl ?_)
  show wpAny _ _ (Builtin.SmallTypes.ownedTupleIsFree (.ref z) >>= _) _ _ _
  refine wpAny_bind (free_out hz hT fun g zg sb => ?_)
  simp only [Bool.false_eq_true, if_false]
  refine wpAny_bind ?_
  rw [← Array.forIn_toList]
  simp only [List.forIn_cons, List.forIn_nil]
  refine wpAny_bind (wpAny_bind (wpAny_holding ?_))
  show wpAny _ _ (Builtin.SmallTypes.nextOf (.ref i1) >>= _) _ _ _
  refine wpAny_bind (nextOf_tuple_item (h1.extBut sb.extBut D.i1z) (p1.extBut sb.extBut D.l1z) hx fun g2 j1 s2 => wpAny_pure (wpAny_pure ?_))
  refine wpAny_bind (wpAny_bind (wpAny_holding ?_))
  show wpAny _ _ (Builtin.SmallTypes.nextOf (.ref i2) >>= _) _ _ _
  refine wpAny_bind (nextOf_tuple_item ((h2.extBut sb.extBut D.i2z).extBut s2.extBut D.i12.symm) ((p2.extBut sb.extBut D.l2z).extBut s2.extBut D.l2i1) hy fun g3 j2 s3 => wpAny_pure (wpAny_pure ?_))
  refine wpAny_pure ?_
  show wpAny _ _ (newTuple [x, y] >>= _) _ _ _
  refine wpAny_bind (wpAny_newTuple ?_)
  have e3 : g3.objs.size = s.heap.objs.size := by rw [s3.1, s2.1, sb.1]
  have up : ∀ c o, c ≠ z → c ≠ i1 → c ≠ i2 → s.heap.get? c = some o → g3.get? c = some o := fun c o a b d e => s3.extBut _ _ d (s2.extBut _ _ b (sb.extBut _ _ a e))
  refine wpAny_pure ⟨_, rfl, wpAny_pure ?_⟩
  show Q (some (.ref g3.objs.size)) _
  rw [e3]
  refine hQ _ ?_ ?_ ?_ ?_ ?_ fun c o a b d e => Heap.get?_push_of_some _ (up c o a b d e)
  · exact Heap.get?_push_of_some _ (s3.extBut _ _ D.i2z.symm (s2.extBut _ _ D.i1z.symm zg))
  · exact (j1.extBut s3.extBut D.i12).at fun o e => Heap.get?_push_of_some _ e
  · exact j2.at fun o e => Heap.get?_push_of_some _ e
  · rw [← e3]; exact Heap.get?_push_size _ rfl
  · rw [Heap.size_push, e3]

theorem end_out {Q : Option Value → Shared → Prop} (hh : A.handled = none) (D : ZipApart z TI TO i1 i2 l1 l2) (hz : Zo s.heap z TI TO T f) (hT : s.heap.get? T = some oT) (hTI : IsPair s.heap TI (.ref i1) (.ref i2))
    (h1 : s.heap.IsTupleIter i1 l1 k) (h2 : s.heap.IsTupleIter i2 l2 k) (p1 : s.heap.IsTuple l1 xs) (p2 : s.heap.IsTuple l2 ys) (he : xs[k]? = none ∨ ys[k]? = none)
    (hQ : ∀ g, (∀ c o, c ≠ z → c ≠ i1 → c ≠ i2 → s.heap.get? c = some o → g.get? c = some o) → Q none { s with heap := g }) : wpAny (model prog w) A (pyNext (.ref z)) Q E s := by
  have ty : s.TypeIs (.ref z) "zip" := ⟨_, hz, rfl⟩
  have fin : ∀ (g : Heap) (e : Addr), (∀ c o, c ≠ z → c ≠ i1 → c ≠ i2 → s.heap.get? c = some o → g.get? c = some o) → (∃ o, g.get? e = some o ∧ o.cls = .type "StopIteration") →
      wpAny (model prog w) A (do let b ← isInstance (.ref e) (.type "StopIteration"); if b = true then pure none else throw (.ref e)) Q E { s with heap := g } := fun g e up ⟨o, ho, hc⟩ =>
    wpAny_bind (wpAny_isInstance (T := "StopIteration") (b := true) ⟨o, ho, hc⟩ isSubtype_stop (wpAny_pure (hQ g up)))
  unfold pyNext
  refine wpAny_bind (wpAny_attempt (wpAny_callSpecial?_slot (name := Str.ofString "__next__") ty F.slot_zip_next (wpAny_call_entry F.slot_zip_next ty F.entry_zip_next ?_ (F.args_zip_next_1 _))))
  show wpAny _ _ (field (.ref z) 2 >>= _) _ _ _
  refine wpAny_bind (wpAny_field hz rfl (x := .bool false) rfl ?_)
  show wpAny _ _ (field (.ref z) 3 >>= _) _ _ _
  refine wpAny_bind (wpAny_field hz rfl (x := .ref TI) rfl ?_)
  refine wpAny_bind (wpAny_seqItems hTI rfl ?_)
  show wpAny _ _ (Builtin.SmallTypes.ownedTupleIsFree (.ref z) >>= _) _ _ _
  refine wpAny_bind (free_out hz hT fun g zg sb => ?_)
  simp only [Bool.false_eq_true, if_false]
  refine wpAny_bind ?_
  rw [← Array.forIn_toList]
  simp only [List.forIn_cons, List.forIn_nil]
  refine wpAny_bind (wpAny_bind (wpAny_holding ?_))
  show wpAny _ _ (Builtin.SmallTypes.nextOf (.ref i1) >>= _) _ _ _
  cases hx : xs[k]? with
  | none => exact wpAny_bind (nextOf_tuple_end hh (h1.extBut sb.extBut D.i1z) (p1.extBut sb.extBut D.l1z) hx fun g2 e s2 he => fin g2 e (fun c o a b d q => s2 _ _ b (sb.extBut _ _ a q)) he)
  | some x =>
    have hy : ys[k]? = none := by rcases he with h | h; rw [hx] at h; cases h; exact h
    refine wpAny_bind (nextOf_tuple_item (h1.extBut sb.extBut D.i1z) (p1.extBut sb.extBut D.l1z) hx fun g2 j1 s2 => wpAny_pure (wpAny_pure ?_))
    refine wpAny_bind (wpAny_bind (wpAny_holding ?_))
    show wpAny _ _ (Builtin.SmallTypes.nextOf (.ref i2) >>= _) _ _ _
    exact wpAny_bind (nextOf_tuple_end hh ((h2.extBut sb.extBut D.i2z).extBut s2.extBut D.i12.symm) ((p2.extBut sb.extBut D.l2z).extBut s2.extBut D.l2i1) hy fun g3 e s3 he =>
      fin g3 e (fun c o a b d q => s3 _ _ d (s2.extBut _ _ b (sb.extBut _ _ a q))) he)

/-- the state of the zip before its item k: fresh, or the pair T is held -/
def Zs (h : Heap) (z TI TO i1 i2 l1 l2 S : Addr) (k : Nat) : Prop :=
  (IsZip h z TI TO .none ∨ ∃ T f oT, Zo h z TI TO T f ∧ h.get? T = some oT ∧ T ≠ z ∧ T ≠ TO ∧ T ≠ i1 ∧ T ≠ i2 ∧ T ≠ S) ∧ IsPair h TI (.ref i1) (.ref i2) ∧ (∃ a b, IsPair h TO a b) ∧ h.IsTupleIter i1 l1 k ∧ h.IsTupleIter i2 l2 k
theorem Zs.keep {h g : Heap} {S : Addr} (D : ZipApart z TI TO i1 i2 l1 l2) (x : Zs h z TI TO i1 i2 l1 l2 S k) (hz : z ≠ S) (hI : TI ≠ S) (hO : TO ≠ S) (h1 : i1 ≠ S) (h2 : i2 ≠ S)
    (up : ∀ c o, c ≠ S → h.get? c = some o → g.get? c = some o) : Zs g z TI TO i1 i2 l1 l2 S k := by
  obtain ⟨a, b, ⟨p, q, c⟩, d, e⟩ := x
  refine ⟨?_, up _ _ hI b, ⟨p, q, up _ _ hO c⟩, d.at fun o q => up _ o h1 q, e.at fun o q => up _ o h2 q⟩
  rcases a with a | ⟨T, f, o, a, t, n1, n2, n3, n4, n5⟩
  · exact .inl (up _ _ hz a)
  · exact .inr ⟨T, f, o, up _ _ hz a, up _ _ n5 t, n1, n2, n3, n4, n5⟩
theorem next_any {S : Addr} {Q : Option Value → Shared → Prop} {x y : Value} (D : ZipApart z TI TO i1 i2 l1 l2) (st : Zs s.heap z TI TO i1 i2 l1 l2 S k) (hS : S < s.heap.objs.size)
    (p1 : s.heap.IsTuple l1 xs) (p2 : s.heap.IsTuple l2 ys) (hx : xs[k]? = some x) (hy : ys[k]? = some y)
    (hQ : ∀ g, Zs g z TI TO i1 i2 l1 l2 S (k + 1) → IsPair g s.heap.objs.size x y → g.objs.size = s.heap.objs.size + 1 →
      (∀ c o, c ≠ z → c ≠ TO → c ≠ i1 → c ≠ i2 → s.heap.get? c = some o → g.get? c = some o) → Q (some (.ref s.heap.objs.size)) { s with heap := g }) : wpAny (model prog w) A (pyNext (.ref z)) Q E s := by
  obtain ⟨a, b, ⟨p, q, c⟩, d, e⟩ := st
  have lO : TO < s.heap.objs.size := Heap.lt_size c
  have l1 : i1 < s.heap.objs.size := by obtain ⟨_, e, _⟩ := d; exact Heap.lt_size e
  have l2 : i2 < s.heap.objs.size := by obtain ⟨_, e, _⟩ := e; exact Heap.lt_size e
  rcases a with a | ⟨T, f, o, a, t, n1, n2, n3, n4, n5⟩
  · have lz : z < s.heap.objs.size := Heap.lt_size a
    exact pyNext_zipT_item D a b c d e p1 p2 hx hy fun g a1 a2 a3 a4 a5 a6 a7 => hQ g ⟨.inr ⟨_, false, _, a1, a5, Nat.ne_of_gt lz, Nat.ne_of_gt lO, Nat.ne_of_gt l1, Nat.ne_of_gt l2, Nat.ne_of_gt hS⟩, a7 _ _ D.TIz D.TITO D.TIi1 D.TIi2 b, ⟨_, _, a2⟩, a3, a4⟩ a5 a6 a7
  · exact next_out D a t b d e p1 p2 hx hy fun g a1 a3 a4 a5 a6 a7 => hQ g ⟨.inr ⟨T, true, o, a1, a7 _ _ n1 n3 n4 t, n1, n2, n3, n4, n5⟩, a7 _ _ D.TIz D.TIi1 D.TIi2 b, ⟨_, _, a7 _ _ D.TOz D.TOi1 D.TOi2 c⟩, a3, a4⟩ a5 a6 fun c o q1 q2 q3 q4 => a7 c o q1 q3 q4
theorem end_any {S : Addr} {Q : Option Value → Shared → Prop} (hh : A.handled = none) (D : ZipApart z TI TO i1 i2 l1 l2) (st : Zs s.heap z TI TO i1 i2 l1 l2 S k)
    (p1 : s.heap.IsTuple l1 xs) (p2 : s.heap.IsTuple l2 ys) (he : xs[k]? = none ∨ ys[k]? = none)
    (hQ : ∀ g, (∀ c o, c ≠ z → c ≠ TO → c ≠ i1 → c ≠ i2 → s.heap.get? c = some o → g.get? c = some o) → Q none { s with heap := g }) : wpAny (model prog w) A (pyNext (.ref z)) Q E s := by
  obtain ⟨a, b, ⟨p, q, c⟩, d, e⟩ := st
  rcases a with a | ⟨T, f, o, a, t, n1, n2, n3, n4, n5⟩
  · exact pyNext_zipT_end hh D a b c d e p1 p2 he hQ
  · exact end_out hh D a t b d e p1 p2 he fun g up => hQ g fun c o q1 q2 q3 q4 => up c o q1 q3 q4
end
/-- the addresses as hold the pairs of xs and ys, in order, above B -/
def Ps (xs ys : Array Value) (B : Nat) (h : Heap) (as : List Addr) : Prop :=
  as.Pairwise (· < ·) ∧ (∀ a ∈ as, @LE.le Nat _ B a) ∧ ∀ (j : Nat) (a : Addr), as[j]? = some a → ∃ x y, xs[j]? = some x ∧ ys[j]? = some y ∧ IsPair h a x y
theorem Ps.lt {xs ys : Array Value} {B : Nat} {h : Heap} {as : List Addr} (p : Ps xs ys B h as) {a : Addr} (m : a ∈ as) : a < h.objs.size := by
  obtain ⟨j, e⟩ := List.mem_iff_getElem?.mp m
  obtain ⟨_, _, _, _, q⟩ := p.2.2 j a e
  exact Heap.lt_size q
section
variable {prog : Program} {w : World} {A : Around} {E : Value → Shared → Prop} {s : Shared}
variable {z TI TO i1 i2 l1 l2 S : Addr} {xs ys : Array Value} {R : Result → Shared → Prop}
/-- where the zip and its parts stand: below the list -/
structure Low (z TI TO i1 i2 l1 l2 S : Addr) : Prop where
  z : @LT.lt Nat _ z S
  TI : @LT.lt Nat _ TI S
  TO : @LT.lt Nat _ TO S
  i1 : @LT.lt Nat _ i1 S
  i2 : @LT.lt Nat _ i2 S
  l1 : @LT.lt Nat _ l1 S
  l2 : @LT.lt Nat _ l2 S
def Kp (z TO i1 i2 S : Addr) (h g : Heap) : Prop := ∀ c o, c ≠ S → c ≠ z → c ≠ TO → c ≠ i1 → c ≠ i2 → h.get? c = some o → g.get? c = some o
theorem collect_zip (hh : A.handled = none) (D : ZipApart z TI TO i1 i2 l1 l2) (L : Low z TI TO i1 i2 l1 l2 S) {N B : Nat} (hN : N = min xs.size ys.size) (hl : N ≤ sizeLine) (hB : @LT.lt Nat _ S B) (res : Value) {h0 : Heap}
    (hR : ∀ g tk acc c as, Kp z TO i1 i2 S h0 g → g.get? S = some { cls := .type "list", dict := none, data := .seq acc c, slots := #[] } → as.length = N → Ps xs ys B g as → acc.toList = as.map Value.ref → R (.ok (.ret res)) { s with heap := g, toks := tk }) :
    ∀ (m k : Nat) (h : Heap) (tk c : Nat) (acc : Array Value) (as : List Addr), N - k = m → k ≤ N → Zs h z TI TO i1 i2 l1 l2 S k → h.IsTuple l1 xs → h.IsTuple l2 ys → Kp z TO i1 i2 S h0 h →
      h.get? S = some { cls := .type "list", dict := none, data := .seq acc c, slots := #[] } → acc.toList = as.map Value.ref → as.length = k → Ps xs ys B h as → B ≤ h.objs.size →
      codeAny (model prog w) A (.builtin "list.extend.loop" ⟨[.ref S, .ref z, res], []⟩) R { s with heap := h, toks := tk } := by
  intro m
  induction m with
  | zero =>
    intro k h tk c acc as hm hk st p1 p2 kp hS ha hal P hBs
    have e : k = N := by omega
    refine codeAny_builtin PySem.F.entry_extend_loop ?_
    rw [Around.under_plainId PySem.F.plain_extend_loop _]
    show wpAny _ A.in1 (pyNext (.ref z) >>= _) _ _ _
    refine wpAny_bind (end_any (s := { s with heap := h, toks := tk }) (A := A.in1) hh D st p1 p2 ?_ fun g up => ?_)
    · rcases Nat.le_total xs.size ys.size with q | q
      · exact .inl (Array.getElem?_eq_none (by omega))
      · exact .inr (Array.getElem?_eq_none (by omega))
    · have big : ∀ {a : Addr}, a ∈ as → a ≠ z ∧ a ≠ TO ∧ a ≠ i1 ∧ a ≠ i2 := fun m => by
        have h1 := P.2.1 _ m
        have := L.z; have := L.TO; have := L.i1; have := L.i2
        refine ⟨?_, ?_, ?_, ?_⟩ <;> (intro q; rw [q] at h1; omega)
      refine wpAny_pure (hR g tk acc c as (fun c o a1 a2 a3 a4 a5 q => up c o a2 a3 a4 a5 (kp c o a1 a2 a3 a4 a5 q)) (up S _ (Nat.ne_of_gt L.z) (Nat.ne_of_gt L.TO) (Nat.ne_of_gt L.i1) (Nat.ne_of_gt L.i2) hS) (hal.trans e) ⟨P.1, P.2.1, fun j a q => ?_⟩ ha)
      obtain ⟨x, y, b1, b2, b3⟩ := P.2.2 j a q
      obtain ⟨n1, n2, n3, n4⟩ := big (List.mem_of_getElem? q)
      exact ⟨x, y, b1, b2, up _ _ n1 n2 n3 n4 b3⟩
  | succ m ih =>
    intro k h tk c acc as hm hk st p1 p2 kp hS ha hal P hBs
    have hx : xs[k]? = some (xs[k]'(by omega)) := Array.getElem?_eq_getElem _
    have hy : ys[k]? = some (ys[k]'(by omega)) := Array.getElem?_eq_getElem _
    have sz : acc.size = k := by rw [← Array.length_toList, ha, List.length_map, hal]
    have hSl : S < h.objs.size := Heap.lt_size hS
    refine codeAny_builtin PySem.F.entry_extend_loop ?_
    rw [Around.under_plainId PySem.F.plain_extend_loop _]
    show wpAny _ A.in1 (pyNext (.ref z) >>= _) _ _ _
    refine wpAny_bind (next_any (s := { s with heap := h, toks := tk }) D st hSl p1 p2 hx hy fun g st' np gs up => ?_)
    dsimp only at np gs up ⊢
    have gS := up S _ (Nat.ne_of_gt L.z) (Nat.ne_of_gt L.TO) (Nat.ne_of_gt L.i1) (Nat.ne_of_gt L.i2) hS
    have ot : ∀ b o, b ≠ S → g.get? b = some o → (g.update S (Obj.mapSeq (·.push (Value.ref h.objs.size)))).get? b = some o := fun b o hb e => (Heap.get?_update_other _ _ (Ne.symm hb)).trans e
    have low : ∀ {a : Addr}, a < S → a ≠ S := fun q => Nat.ne_of_lt q
    show wpAny _ A.in1 (updateSeq S (·.push (Value.ref h.objs.size)) >>= _) _ _ _
    refine wpAny_bind ?_
    refine wpAny_updateSeq gS rfl (wpAny_pure ⟨plainId_quiet PySem.F.plain_extend_loop _, ih (k + 1) _ tk _ (acc.push (Value.ref h.objs.size)) (as ++ [h.objs.size]) (by omega) (by omega)
      (st'.keep D (low L.z) (low L.TI) (low L.TO) (low L.i1) (low L.i2) ot)
      ((p1.at fun o e => up l1 o D.l1z D.l1TO D.l1i1 D.l1i2 e).at fun o e => ot l1 o (low L.l1) e) ((p2.at fun o e => up l2 o D.l2z D.l2TO D.l2i1 D.l2i2 e).at fun o e => ot l2 o (low L.l2) e)
      (fun c o a1 a2 a3 a4 a5 q => ot c o a1 (up c o a2 a3 a4 a5 (kp c o a1 a2 a3 a4 a5 q))) (Heap.get?_update_self _ gS rfl) (by rw [Array.toList_push, ha, List.map_append]; rfl) (by rw [List.length_append, hal]; rfl) ⟨?_, ?_, ?_⟩ ?_⟩)
      (by rw [sz]; omega) (by show (acc.push (Value.ref h.objs.size)).size ≤ sizeLine + 1; rw [Array.size_push, sz]; omega)
    · refine List.pairwise_append.mpr ⟨P.1, List.pairwise_singleton _ _, fun a q b hb => ?_⟩
      rw [List.mem_singleton.mp hb]
      exact P.lt q
    · intro a q
      rcases List.mem_append.mp q with q | q
      · exact P.2.1 a q
      · rw [List.mem_singleton.mp q]; exact hBs
    · intro j b q
      rcases Nat.lt_trichotomy j as.length with o | o | o
      · rw [List.getElem?_append_left o] at q
        obtain ⟨x, y, b1, b2, b3⟩ := P.2.2 j b q
        have h1 := P.2.1 b (List.mem_of_getElem? q)
        have := L.z; have := L.TO; have := L.i1; have := L.i2
        exact ⟨x, y, b1, b2, ot b _ (by intro e; rw [e] at h1; omega) (up b _ (by intro e; rw [e] at h1; omega) (by intro e; rw [e] at h1; omega) (by intro e; rw [e] at h1; omega) (by intro e; rw [e] at h1; omega) b3)⟩
      · subst o
        have e : h.objs.size = b := by simpa using q
        subst e
        exact ⟨_, _, hal ▸ hx, hal ▸ hy, ot _ _ (Nat.ne_of_gt hSl) np⟩
      · rw [List.getElem?_eq_none (by rw [List.length_append, List.length_singleton]; omega)] at q; cases q
    · have e : (g.update S (Obj.mapSeq (·.push (Value.ref h.objs.size)))).get? h.objs.size = _ := ot _ _ (Nat.ne_of_gt hSl) np
      exact Nat.le_trans hBs (Nat.le_of_lt (Heap.lt_size e))
end
theorem zip_len0 : typeLookup (.type "zip") "__len__" = pure none := by rw [typeLookup_type, builtinLookup_eq_fast]; kernel_rfl
theorem zip_hint0 : typeLookup (.type "zip") "__length_hint__" = pure none := by rw [typeLookup_type, builtinLookup_eq_fast]; kernel_rfl
section
variable {prog : Program} {w : World} {A : Around} {E : Value → Shared → Prop} {s : Shared}
variable {z TI TO i1 i2 l1 l2 S : Addr} {xs ys : Array Value} {R : Result → Shared → Prop}
theorem fill_zip (hh : A.handled = none) (D : ZipApart z TI TO i1 i2 l1 l2) (L : Low z TI TO i1 i2 l1 l2 S) (hl : min xs.size ys.size ≤ sizeLine) (hz : IsZip s.heap z TI TO .none) (hTI : IsPair s.heap TI (.ref i1) (.ref i2))
    (hTO : IsPair s.heap TO .none .none) (h1 : s.heap.IsTupleIter i1 l1 0) (h2 : s.heap.IsTupleIter i2 l2 0) (p1 : s.heap.IsTuple l1 xs) (p2 : s.heap.IsTuple l2 ys) (hS : s.heap.get? S = some { cls := .type "list", data := .seq #[] })
    (hR : ∀ g tk acc c as, Kp z TO i1 i2 S s.heap g → g.get? S = some { cls := .type "list", dict := none, data := .seq acc c, slots := #[] } → as.length = min xs.size ys.size → Ps xs ys s.heap.objs.size g as → acc.toList = as.map Value.ref →
      R (.ok (.ret .none)) { s with heap := g, toks := tk }) :
    wpAny (model prog w) A.in1 (Builtin.«list.__init__» ⟨[.ref S, .ref z], []⟩)
      (fun fin s' => match fin with | .done f => R (.ok f) s' | .again c' => c'.quiet = true ∧ codeAny (model prog w) A c' R s') (fun e s' => R (.error e) s') s := by
  have hSl : S < s.heap.objs.size := Heap.lt_size hS
  show wpAny _ A.in1 (do let old ← Builtin.List.listItems (.ref S); Builtin.List.listUpdate (.ref S) (fun _ => #[]); letGo old.toList.reverse; Builtin.List.listExtendWith (.ref S) (.ref z) .none) _ _ s
  refine wpAny_bind ?_
  unfold Builtin.List.listItems
  refine wpAny_bind (wpAny_seqItems hS rfl (wpAny_pure ?_))
  show wpAny _ A.in1 (updateSeq S (fun _ => #[]) >>= fun _ => letGo (#[] : Array Value).toList.reverse >>= fun _ => Builtin.List.listExtendWith (.ref S) (.ref z) .none) _ _ s
  refine wpAny_bind (wpAny_updateSeq hS rfl ?_)
  have e1 := Heap.get?_update_self (Obj.mapSeq (fun _ => (#[] : Array Value))) hS rfl
  have u1 : ∀ b o, b ≠ S → s.heap.get? b = some o → (s.heap.update S (Obj.mapSeq (fun _ => (#[] : Array Value)))).get? b = some o := fun b o hb e => (Heap.get?_update_other _ _ (Ne.symm hb)).trans e
  have z1 : (s.heap.update S (Obj.mapSeq (fun _ => (#[] : Array Value)))).objs.size = s.heap.objs.size := (Heap.SameBut.update ..).1
  refine wpAny_bind (wpAny_letGo ?_)
  generalize hg1 : s.heap.update S (Obj.mapSeq (fun _ => (#[] : Array Value))) = g1 at e1 u1 z1 ⊢
  clear hg1
  have low : ∀ {a : Addr}, a < S → a ≠ S := fun q => Nat.ne_of_lt q
  have zz : IsZip g1 z TI TO .none := u1 _ _ (low L.z) hz
  have ty : Shared.TypeIs { s with heap := g1 } (.ref z) "zip" := ⟨_, zz, rfl⟩
  unfold Builtin.List.listExtendWith
  refine wpAny_bind (wpAny_typeOf ty ?_)
  have q1 : Builtin.List.listSameRef (.ref S) (.ref z) = false := by simp [Builtin.List.listSameRef, (low L.z).symm]
  have q2 : (Value.type "zip" == Value.type "list") = false := by decide
  have q3 : (Value.type "zip" == Value.type "tuple") = false := by decide
  simp only [q1, q2, q3, Bool.or_false, Bool.false_eq_true, if_false]
  refine wpAny_bind (wpAny_pyIter_zip zz ?_)
  refine wpAny_bind (wpAny_holding ?_)
  unfold Builtin.List.listLengthHint
  refine wpAny_bind (wpAny_specialOf ty zip_len0 ?_)
  show wpAny _ A.in1 (specialOf (Value.ref z) (Str.ofString "__length_hint__") >>= _) _ _ _
  refine wpAny_bind (wpAny_specialOf ty zip_hint0 ?_)
  refine wpAny_pure ?_
  show wpAny _ A.in1 (rule "list.extend.makes-room" >>= fun _ => Builtin.List.listTouch (.ref S) >>= fun _ => again (.builtin "list.extend.loop" ⟨[.ref S, .ref z, .none], []⟩)) _ _ _
  refine wpAny_bind (wpAny_rule ?_)
  refine wpAny_bind ?_
  show wpAny _ A.in1 (updateSeq S (·.push .none) >>= fun _ => updateSeq S (·.pop)) _ _ _
  refine wpAny_bind (wpAny_updateSeq e1 rfl ?_)
  have e2 := Heap.get?_update_self (Obj.mapSeq (·.push Value.none)) e1 rfl
  refine wpAny_updateSeq (hz := by seq_fits) e2 rfl ?_
  have e3 := Heap.get?_update_self (Obj.mapSeq (·.pop)) e2 rfl
  have u3 : ∀ b o, b ≠ S → s.heap.get? b = some o → ((g1.update S (Obj.mapSeq (·.push Value.none))).update S (Obj.mapSeq (·.pop))).get? b = some o :=
    fun b o hb e => (Heap.get?_update_other _ _ (Ne.symm hb)).trans ((Heap.get?_update_other _ _ (Ne.symm hb)).trans (u1 b o hb e))
  have z3 : ((g1.update S (Obj.mapSeq (·.push Value.none))).update S (Obj.mapSeq (·.pop))).objs.size = s.heap.objs.size := ((Heap.SameBut.update ..).1.trans (Heap.SameBut.update ..).1).trans z1
  refine wpAny_pure ⟨plainId_quiet PySem.F.plain_extend_loop _, collect_zip (s := { s with heap := g1 }) hh D L rfl hl hSl .none (h0 := s.heap) (fun g tk acc c as => hR g tk acc c as) _ 0 _ _ _ _ [] rfl (Nat.zero_le _)
    ⟨.inl (u3 _ _ (low L.z) hz), u3 _ _ (low L.TI) hTI, ⟨_, _, u3 _ _ (low L.TO) hTO⟩, h1.at fun o e => u3 _ o (low L.i1) e, h2.at fun o e => u3 _ o (low L.i2) e⟩
    (p1.at fun o e => u3 _ o (low L.l1) e) (p2.at fun o e => u3 _ o (low L.l2) e) (fun c o a1 _ _ _ _ q => u3 c o a1 q) e3 rfl rfl ⟨List.Pairwise.nil, (fun _ h => nomatch h), (fun j a h => by simp at h)⟩ (Nat.le_of_eq z3.symm)⟩

theorem list_zip {Q : Value → Shared → Prop} (hh : A.handled = none) (p1 : s.heap.IsTuple l1 xs) (p2 : s.heap.IsTuple l2 ys) (hl : min xs.size ys.size ≤ sizeLine)
    (hQ : ∀ g tk acc c as S, s.heap.objs.size ≤ S → (∀ c o, s.heap.get? c = some o → g.get? c = some o) → g.get? S = some { cls := .type "list", dict := none, data := .seq acc c, slots := #[] } → as.length = min xs.size ys.size → Ps xs ys (S + 1) g as →
      acc.toList = as.map Value.ref → Q (.ref S) { s with heap := g, toks := tk }) :
    wpAny (model prog w) A (call (.type "zip") [.ref l1, .ref l2]) (fun v s1 => wpAny (model prog w) A (call (.type "list") [v]) Q E s1) E s := by
  obtain ⟨o1, b1, _⟩ := id p1
  obtain ⟨o2, b2, _⟩ := id p2
  have lt1 := Heap.lt_size b1
  have lt2 := Heap.lt_size b2
  refine call_zipT p1 p2 fun h hz hTI hTO h1 h2 hs up => ?_
  have D := ktu_apart s.heap.objs.size l1 l2 lt1 lt2
  have sS : h.objs.size = s.heap.objs.size + 5 := hs
  have c0 : @LT.lt Nat _ l1 s.heap.objs.size := lt1
  have c1 : @LT.lt Nat _ l2 s.heap.objs.size := lt2
  refine callType_codes (Q₁ := fun obj s₁ => obj = .ref h.objs.size ∧ s₁ = { s with heap := h.push { cls := .type "list", data := .seq #[] } }) PySem.F.called_list (PySem.F.typeCall_list_1 _) PySem.F.entry_list_init
    (code_list_new _ ⟨rfl, rfl⟩) fun obj s₁ e₁ => ?_
  obtain ⟨rfl, rfl⟩ := e₁
  have hS : (h.push { cls := .type "list", data := .seq #[] }).get? h.objs.size = some { cls := .type "list", data := .seq #[] } := Heap.get?_push_size _ rfl
  have pu : ∀ {c : Addr} {o : Obj}, h.get? c = some o → (h.push { cls := .type "list", data := .seq #[] }).get? c = some o := fun e => Heap.get?_push_of_some _ e
  refine ⟨⟨_, hS, rfl⟩, PySem.F.args_list_init_2 _ _, fill_zip (xs := xs) (ys := ys) (A := A.in1) hh D ⟨?_, ?_, ?_, ?_, ?_, ?_, ?_⟩ hl (pu hz) (pu hTI) (pu hTO) (h1.at fun o e => pu e) (h2.at fun o e => pu e)
    ((p1.at fun o e => up _ _ e).at fun o e => pu e) ((p2.at fun o e => up _ _ e).at fun o e => pu e) hS (fun g tk acc c as kp gS ln P ha => ⟨rfl, hQ g tk acc c as _ ?_ ?_ gS ln ?_ ha⟩)⟩
  any_goals (rw [sS]; first | exact Nat.lt_add_of_pos_right (by decide) | (show @LT.lt Nat _ _ _; omega))
  · rw [sS]; exact Nat.le_add_right _ _
  · intro c o e
    have lc : @LT.lt Nat _ c s.heap.objs.size := Heap.lt_size e
    refine kp c o ?_ ?_ ?_ ?_ ?_ (pu (up c o e)) <;> (intro q; rw [q] at lc; first | (rw [sS] at lc; omega) | omega)
  · have e : (h.push { cls := .type "list", data := .seq #[] }).objs.size = h.objs.size + 1 := Heap.size_push ..
    rw [← e]
    exact P
end
end Lz

namespace Dg
open PySem PySem.Spec PyProof.Rows L2 RZ PySem.W
section
variable {X : Cx} {W : WX} {k : Nat}
theorem getR {xs : List V} {us : List Value} (r : Vals xs us) {j : Nat} {u : Value} (e : us[j]? = some u) : ∃ x, xs[j]? = some x ∧ RelV x u := by
  cases h : xs[j]? with
  | none => rw [r.none_of h] at e; cases e
  | some x =>
    obtain ⟨u', e', q⟩ := r.get h
    rw [e] at e'; cases e'
    exact ⟨x, rfl, q⟩
/-- list(zip(a, b)) of tuples: the pairs are laid, then the list -/
def tLz (K : PySem.W.Frag) (ta : TA) : TE := fun σ H Q => ta σ H fun vs H1 => ∃ a b xs ys, vs = [.ref a, .ref b] ∧ SqT K H1 a xs ∧ SqT K H1 b ys ∧ ∀ (S : Addr) (as : List Addr) (H2 : Hp), H1 S = none → H2 S = some (.lst (as.map V.ref)) → (∀ b o, H1 b = some o → H2 b = some o) →
  as.length = min xs.length ys.length → (∀ (j : Nat) a, as[j]? = some a → ∃ x y, xs[j]? = some x ∧ ys[j]? = some y ∧ H2 a = some (.tup [x, y])) → Q (.ref S) H2
theorem pe_lz {e e2 : Expr} {ta : TA} {p q pos pos2 : Pos} (hc : X.calm = true) (hg : Gl X "list") (hm : X.mg "list" = none) (hgz : Gl X "zip") (hmz : X.mg "zip" = none) (ha : PA X [e, e2] ta)
    (hs : starEach [e, e2] X.env = (false, eval e X.env) :: starEach [e2] X.env := by rfl) (hpl : (backTo pos2 (starEach [e2] X.env)).any (·.1) = false := by rfl) :
    PE X (.Call (.Name "list" p) [.Call (.Name "zip" q) [e, e2] [] pos2] [] pos) (tLz X.K ta) := by
  refine ⟨fun pins s σ H Q I h => ?_⟩
  refine Call_ (ld_blt I hg hm boot_list (PyProof.Rows.callWith_type1 (args_cons ?_ rfl) rfl))
  refine Call_ (ld_blt I hgz hmz PyProof.Rows.boot_zip (PyProof.Rows.callWith_type1 (thn (ha.run pos2 pins s σ H _ I h) fun us s1 ⟨vs, H1, I1, r1, q1⟩ => ?_) hs hpl))
  obtain ⟨a, b, xs, ys, ex, ha1, hb1, q1⟩ := q1
  subst ex
  cases r1 with
  | cons r rr =>
    cases rr with
    | cons r' rr =>
      cases rr
      cases r
      cases r'
      obtain ⟨is, va, p1, z1⟩ := I1.tuple ha1
      obtain ⟨js, vb, p2, z2⟩ := I1.tuple hb1
      have l1 := va.length
      have l2 := vb.length
      have ml : min is.toArray.size js.toArray.size = min xs.length ys.length := by simp only [List.size_toArray, l1, l2]
      refine wpAny_mono (Lz.list_zip (Q := EP X pins σ Q) (E := X.xe) (I1.ok.hd hc) (show s1.heap.IsTuple a is.toArray from p1) (show s1.heap.IsTuple b js.toArray from p2) (by rw [ml]; omega) fun g tk acc c as S hS up gS ln P hacc => ?_) (fun v s2 h2 => args_nil h2) fun _ _ h2 => h2
      have nd : as.Nodup := P.1.imp fun q => Nat.ne_of_lt q
      have big : ∀ x ∈ as, s1.heap.objs.size ≤ x := fun x hx => Nat.le_trans hS (Nat.le_of_succ_le (P.2.1 x hx))
      have S1 : H1 S = none := I1.hok.fresh hS
      have nS : S ∉ as := fun q => Nat.lt_irrefl S (P.2.1 S q)
      have I2 : Inv X pins σ (upd H1 S (.lst (as.map V.ref))) { s1 with heap := g, toks := tk } :=
        I1.laid up hS (show ObjOk X.prog X.w _ _ _ (.lst (as.map V.ref)) from ⟨by rw [List.length_map, ln, ml]; omega, acc.toList, c, by rw [hacc]; exact vals_refs as, by rw [Array.toArray_toList]; exact gS⟩)
      obtain ⟨H2, I3, ext, tk2⟩   := L2.DX.takeT (P := fun x vs => ∀ (j : Nat), as[j]? = some x → ∃ (u w : V), xs[j]? = some u ∧ ys[j]? = some w ∧ vs = [u, w]) I1 as (upd H1 S (.lst (as.map V.ref))) I2 nd fun x hx => by
        obtain ⟨j, hj⟩ := List.mem_iff_getElem?.mp hx
        obtain ⟨u, w, e1, e2, pr⟩ := P.2.2 j x hj
        have e1' : is[j]? = some u := by simpa using e1
        have e2' : js[j]? = some w := by simpa using e2
        obtain ⟨m, em, rm⟩ := getR va e1'
        obtain ⟨n, en, rn⟩ := getR vb e2'
        refine ⟨big x hx, ?_, [m, n], fun j' hj' => ?_, fun H2 => ⟨by show 2 ≤ sizeLine; decide, [u, w], .cons rm (.cons rn .nil), ⟨_, pr, rfl, _, rfl⟩⟩⟩
        · rw [upd_ne (fun q => nS (by rw [← q]; exact hx))]
          exact I1.hok.fresh (big x hx)
        · have : j' = j := (List.getElem?_inj (List.getElem?_eq_some_iff.mp hj').1 nd).mp (hj'.trans hj.symm)
          subst this
          exact ⟨m, n, em, en, rfl⟩
      refine ⟨.ref S, H2, I3, rfl, q1 S as H2 S1 (ext _ _ upd_same) (fun b o e => ext _ _ (by rw [upd_ne (ne_of_none e S1)]; exact e)) (by rw [ln, ml]) fun j x hj => ?_⟩
      obtain ⟨vs, hP, eH⟩ := tk2 x (List.mem_of_getElem? hj)
      obtain ⟨u, w, e1, e2, rfl⟩ := hP j hj
      exact ⟨u, w, e1, e2, eH⟩
/-- the mirror: a new list of pairs -/
def fLz (ma : FA) : FE := fun s μ => (ma s μ).bind fun us μ1 => match us with
  | [.tup xs, .tup ys] => .ok (.ref μ1.length) (μ1 ++ [.lst (List.zipWith (fun x y => .tup [x, y]) xs ys)])
  | _ => .bad
theorem zipPairs {K : PySem.W.Frag} {H : Hp} {ρ : List Addr} : ∀ {us ws : List U} {xs ys : List V} {as : List Addr}, RepVs K H ρ us xs → RepVs K H ρ ws ys → as.length = min xs.length ys.length →
    (∀ (j : Nat) a, as[j]? = some a → ∃ x y, xs[j]? = some x ∧ ys[j]? = some y ∧ H a = some (.tup [x, y])) → RepVs K H ρ (List.zipWith (fun x y => .tup [x, y]) us ws) (as.map V.ref)
  | [], _, _, _, as, .nil, _, hl, _ => by
    have : as = [] := List.length_eq_zero_iff.mp (by simpa using hl)
    subst this; exact .nil
  | _ :: _, [], _, _, as, .cons _ _, .nil, hl, _ => by
    have : as = [] := List.length_eq_zero_iff.mp (by simpa using hl)
    subst this; exact .nil
  | u :: us, w :: ws, _, _, [], .cons _ _, .cons _ _, hl, _ => by simp at hl
  | u :: us, w :: ws, _, _, a :: as, .cons hu ru, .cons hw rw', hl, hp => by
    obtain ⟨x, y, e1, e2, e3⟩ := hp 0 a rfl
    cases e1; cases e2
    exact .cons (.tup (.inl (.inl e3)) (.cons hu (.cons hw .nil))) (zipPairs ru rw' (by simp at hl; omega) fun j a h => hp (j + 1) a h)
theorem ce_lz {e e2 : Expr} {ma : FA} {p q pos pos2 : Pos} (G : Good X W k) (hg : Gl X "list") (hm : X.mg "list" = none) (hgz : Gl X "zip") (hmz : X.mg "zip" = none) (ha : CA X W [e, e2] ma)
    (hp : ∀ {t : TA}, PA X [e, e2] t → PE X (.Call (.Name "list" p) [.Call (.Name "zip" q) [e, e2] [] pos2] [] pos) (tLz X.K t)) : CE X W (.Call (.Name "list" p) [.Call (.Name "zip" q) [e, e2] [] pos2] [] pos) (fLz ma) := by
  intro ρ μ s σ H Q hs hm' h
  refine ⟨_, hp pa_w, ?_⟩
  refine ha ρ μ s σ H _ hs hm' (h.bind fun us μ1 vs H1 ρ1 t1 r1 h1 => ?_)
  split at h1
  · cases r1 with
    | cons ra r1 =>
      cases r1 with
      | cons rb r1 =>
        cases r1
        cases ra with
        | tup ta rxs =>
          cases rb with
          | tup tb rys =>
            refine ⟨_, _, _, _, rfl, ta, tb, fun S as H2 hS eS ext ln hp => ?_⟩
            -- the heap but for the list
            let H0 : Hp := fun b => if b = S then none else H2 b
            have e0 : upd H0 S (.lst (as.map V.ref)) = H2 := by
              funext b
              unfold upd
              by_cases hb : b = S
              · rw [if_pos hb, hb, eS]
              · rw [if_neg hb]; show (if b = S then none else H2 b) = H2 b; rw [if_neg hb]
            have x0 : ∀ b o, H1 b = some o → H0 b = some o := fun b o e => by
              show (if b = S then none else H2 b) = _
              rw [if_neg (fun q => by rw [q, hS] at e; cases e)]
              exact ext b o e
            have nS : H0 S = none := by show (if S = S then none else H2 S) = none; rw [if_pos rfl]
            have tx : TX H1 H0 := ⟨fun a xs h => by
              rcases h with h | ⟨o, h⟩
              · exact .inl (x0 _ _ h)
              · exact .inr ⟨o, x0 _ _ h⟩, fun a o u h => x0 _ _ h⟩
            have m0 : RepM X.K H0 ρ1 μ1 := t1.mem.keep tx fun a ha => by
              cases hq : H1 a with
              | none => exact absurd hq (t1.mem.here ha)
              | some o => rw [x0 _ _ hq]
            have st : Stp X.K ρ1 H1 ρ1 H0 μ1 := ⟨Ext.refl _, tx, m0⟩
            have rv : RepVs X.K (upd H0 S (.lst (as.map V.ref))) (ρ1 ++ [S]) _ (as.map V.ref) := zipPairs (((st.vs rxs).mono (TX.new nS) (Ext.snoc ρ1 S))) ((st.vs rys).mono (TX.new nS) (Ext.snoc ρ1 S)) ln (by rw [e0]; exact hp)
            have st2 : Stp X.K ρ1 H0 (ρ1 ++ [S]) (upd H0 S (.lst (as.map V.ref))) (μ1 ++ [.lst _]) := Stp.new m0 nS ⟨_, upd_same, rv⟩
            rw [← e0]
            exact h1.ok (st.trans st2) (refN t1.mem)
  · exact h1.elim
end
end Dg
/-! Dk: dicts whose keys are tuples of ints: comprehension, in, d[t] = v, d[t]. -/
namespace Dg
open PySem PySem.Spec PyProof.Rows L2

abbrev Ti := List (List Int × Addr × V)
def valI (xs : Ti) (k : List Int) : Option V := (xs.find? fun x => decide (x.1 = k)).map (·.2.2)
def putI (xs : Ti) (k : List Int) (b : Addr) (v : V) : Ti :=
  if (xs.any fun x => decide (x.1 = k)) = true then xs.map (fun x => if x.1 = k then (x.1, x.2.1, v) else x) else xs ++ [(k, b, v)]
abbrev PR : Ti → List (List Int × Addr × Value) → Prop := Paired fun p q => p.1 = q.1 ∧ p.2.1 = q.2.1 ∧ RelV p.2.2 q.2.2
theorem PR.val {xs : Ti} {ys : List (List Int × Addr × Value)} (r : PR xs ys) (k : List Int) : RelO (valI xs k) ((atKey ys k).map (·.2)) := by
  induction r with
  | nil => exact True.intro
  | @cons p q ps qs h t ih =>
    obtain ⟨h1, _, h2⟩ := h
    by_cases e : p.1 = k
    · have e' : q.1 = k := h1.symm.trans e
      have c1 : valI (p :: ps) k = some p.2.2 := by simp [valI, e]
      have c2 : atKey (q :: qs) k = some q.2 := by simp [atKey, e']
      rw [c1, c2]; exact h2
    · have e' : ¬ q.1 = k := fun z => e (h1.trans z)
      have c1 : valI (p :: ps) k = valI ps k := by simp [valI, e]
      have c2 : atKey (q :: qs) k = atKey qs k := by simp [atKey, e']
      rw [c1, c2]; exact ih
theorem PR.any {xs : Ti} {ys : List (List Int × Addr × Value)} (r : PR xs ys) (k : List Int) : (xs.any fun x => decide (x.1 = k)) = (atKey ys k).isSome := by
  induction r with
  | nil => rfl
  | @cons p q ps qs h t ih =>
    by_cases e : p.1 = k
    · have e' : q.1 = k := h.1.symm.trans e
      simp [atKey, e, e']
    · have e' : ¬ q.1 = k := fun z => e (h.1.trans z)
      have c2 : atKey (q :: qs) k = atKey qs k := by simp [atKey, e']
      rw [c2, ← ih]; simp [e]
theorem PR.put {xs : Ti} {ys : List (List Int × Addr × Value)} (r : PR xs ys) (k : List Int) (b : Addr) {v : V} {u : Value} (rv : RelV v u) : PR (putI xs k b v) (storedH ys k b u) := by
  unfold putI storedH
  rw [r.any k]
  by_cases q : (atKey ys k).isSome = true
  · rw [if_pos q, if_pos q]
    clear q
    induction r with
    | nil => exact .nil
    | @cons p q ps qs h t ih =>
      rw [List.map_cons, List.map_cons]
      refine .cons ?_ ih
      unfold putAt
      by_cases e : p.1 = k
      · rw [if_pos e, if_pos (h.1.symm.trans e)]; exact ⟨h.1, h.2.1, rv⟩
      · rw [if_neg e, if_neg (fun z => e (h.1.trans z))]; exact h
  · rw [if_neg q, if_neg q]; exact Paired.snoc r ⟨rfl, rfl, rv⟩
theorem putI_mem {xs : Ti} {k : List Int} {b : Addr} {v : V} {p : List Int × Addr × V} (h : p ∈ putI xs k b v) : (p.1 = k ∧ p.2.1 = b) ∨ ∃ q ∈ xs, q.1 = p.1 ∧ q.2.1 = p.2.1 := by
  unfold putI at h
  split at h
  · obtain ⟨x, hx, e⟩ := List.mem_map.mp h
    refine .inr ⟨x, hx, ?_⟩
    subst e
    split <;> exact ⟨rfl, rfl⟩
  · rcases List.mem_append.mp h with h | h
    · exact .inr ⟨p, h, rfl, rfl⟩
    · rw [List.mem_singleton.mp h]; exact .inl ⟨rfl, rfl⟩
theorem putI_len (xs : Ti) (k : List Int) (b : Addr) (v : V) : (putI xs k b v).length ≤ xs.length + 1 := by
  unfold putI
  split <;> simp
theorem PR.len {xs : Ti} {ys : List (List Int × Addr × Value)} (r : PR xs ys) : xs.length = ys.length := Paired.length r
theorem PR.keys {xs : Ti} {ys : List (List Int × Addr × Value)} (r : PR xs ys) : xs.map (·.1) = ys.map (·.1) := by
  induction r with
  | nil => rfl
  | cons h t ih => rw [List.map_cons, List.map_cons, h.1, ih]

section
variable {X : Cx} {pins : List (Addr × Obj)} {σ : L2.St} {H : Hp} {s : Shared} {a b : Addr} {A : Around} {E : Value → Shared → Prop} {xs : Ti} {ks : List Int}
def TiIn (K : PySem.W.Frag) (H : Hp) (a : Addr) (xs : Ti) : Prop := H a = some (TiD a xs) ∧ ∀ p ∈ xs, SqT K H p.2.1 (p.1.map V.int)
theorem ints_items {P : Program} {w : World} : ∀ {ks : List Int} {us : List Value}, Vals (ks.map V.int) us → ItemsAre (intKind P w) ks us
  | [], _, .nil => .nil
  | k :: ks, _, .cons h t => by
    obtain ⟨tk, rfl⟩ := (show ∃ t, _ = Value.int k t from h)
    exact .cons (by show Value.isInt k (.int k tk) = true; simp [Value.isInt]) (ints_items t)
theorem tkey (I : Inv X pins σ H s) (h : SqT X.K H b (ks.map V.int)) : (tupleKind (intKind X.prog X.w)).is s.heap ks b := by
  obtain ⟨its, rv, ⟨o, ho, hc, n, hd⟩, hz⟩ := I.tuple h
  exact ⟨o, its.toArray, n, ho, hc, hd, by simpa using ints_items rv⟩
theorem tdict (I : Inv X pins σ H s) (h : TiIn X.K H a xs) : (a == sysModules) = false ∧ xs.length ≤ sizeLine ∧ ∃ ys, PR xs ys ∧ s.heap.DictOfH (tupleKind (intKind X.prog X.w)) a ys := by
  obtain ⟨⟨q, z, n, ys, p, o, es, ep, e1, e2, e3, e4⟩, rest⟩ := (show ObjOk X.prog X.w H s.heap a (TiD a xs) from I.hok a _ h.1)
  refine ⟨q, z, ys, p, o, es, ep, e1, e2, e3, e4, ?_, by rw [← PR.keys p]; exact n⟩
  have hk := h.2
  clear rest e4 n z q h e3 e2 e1
  induction p with
  | nil => exact fun _ h => nomatch h
  | @cons p q ps qs hq t ih =>
    intro x hx
    rcases List.mem_cons.mp hx with e | hx
    · subst e
      have := tkey I (hk p (List.mem_cons_self ..))
      rw [hq.1, hq.2.1] at this
      exact this
    · exact ih (fun p hp => hk p (List.mem_cons_of_mem _ hp)) x hx
theorem ti_ok {P : Program} {w : World} {H' : Hp} {h' : Heap} {ys : List (List Int × Addr × Value)} (q : (a == sysModules) = false) (z : xs.length ≤ sizeLine) (p : PR xs ys) (dd : h'.DictOfH (tupleKind (intKind P w)) a ys) : ObjOk P w H' h' a (TiD a xs) := by
  obtain ⟨o, es, ep, e1, e2, e3, e4, _, e5⟩ := dd
  exact TiRaw.ok ⟨q, z, by rw [p.keys]; exact e5, ys, p, o, es, ep, e1, e2, e3, e4⟩
theorem ti_in {Q : Value → Shared → Prop} (hu : A.units + 1 < cLine) (I : Inv X pins σ H s) (h : TiIn X.K H a xs) (hb : SqT X.K H b (ks.map V.int)) (q : ∀ s', Inv X pins σ H s' → Q (.bool (valI xs ks).isSome) s') :
    wpAny (model X.prog X.w) A (compareOp .In (.ref b) (.ref a)) Q E s := by
  obtain ⟨hd, z, ys, rel, dd⟩ := tdict I h
  refine wpAny_in_heap (tupleKind_room_in1 hu) (tkey I hb) hd dd ?_
  have e := (rel.val ks).isSome_eq
  rw [Option.isSome_map] at e
  rw [← e]
  exact q _ (I.tok _)
theorem ti_nin {Q : Value → Shared → Prop} (hu : A.units + 1 < cLine) (I : Inv X pins σ H s) (h : TiIn X.K H a xs) (hb : SqT X.K H b (ks.map V.int)) (q : ∀ s', Inv X pins σ H s' → Q (.bool (!(valI xs ks).isSome)) s') :
    wpAny (model X.prog X.w) A (compareOp .NotIn (.ref b) (.ref a)) Q E s := by
  obtain ⟨hd, z, ys, rel, dd⟩ := tdict I h
  refine wpAny_notIn_heap (tupleKind_room_in1 hu) (tkey I hb) hd dd ?_
  have e := (rel.val ks).isSome_eq
  rw [Option.isSome_map] at e
  rw [← e]
  exact q _ (I.tok _)
theorem ti_write {h' : Heap} {t' : Nat} {v : V} {u : Value} {ys : List (List Int × Addr × Value)} (I : Inv X pins σ H s) (h : TiIn X.K H a xs) (hd : (a == sysModules) = false) (z : xs.length < sizeLine) (rel : PR xs ys) (rv : RelV v u)
    (dd : h'.DictOfH (tupleKind (intKind X.prog X.w)) a (storedH ys ks b u)) (sb : Heap.SameBut a s.heap h') : Inv X pins σ (upd H a (TiD a (putI xs ks b v))) { s with heap := h', toks := t' } := by
  have ex : ∃ q, h'.get? a = some q := let ⟨q, _, _, hq, _⟩ := dd; ⟨q, hq⟩
  exact d_write I (by rw [h.1]; exact True.intro) sb ex (ti_ok hd (by have := putI_len xs ks b v; omega) (rel.put ks b rv) dd)
theorem ti_set {Q : Unit → Shared → Prop} {v : V} {u : Value} (hu : A.units + 1 < cLine) (I : Inv X pins σ H s) (h : TiIn X.K H a xs) (hb : SqT X.K H b (ks.map V.int)) (z : xs.length < sizeLine) (rv : RelV v u)
    (q : ∀ s', Inv X pins σ (upd H a (TiD a (putI xs ks b v))) s' → Q () s') : wpAny (model X.prog X.w) A (setItem (.ref a) (.ref b) u) Q E s := by
  obtain ⟨hd, _, ys, rel, dd⟩ := tdict I h
  have hz : ys.length ≤ sizeLine := by rw [← rel.len]; omega
  exact wpAny_setItem_heap (hsz := hz) (tupleKind_room_in1 hu) (tkey I hb) dd fun h' dd' sb => q _ (ti_write I h hd z rel rv dd' sb)
theorem ti_new {Q : Unit → Shared → Prop} {v : V} {u : Value} (hu : A.units < cLine) (I : Inv X pins σ H s) (h : TiIn X.K H a xs) (hb : SqT X.K H b (ks.map V.int)) (z : xs.length < sizeLine) (rv : RelV v u)
    (q : ∀ s', Inv X pins σ (upd H a (TiD a (putI xs ks b v))) s' → Q () s') : wpAny (model X.prog X.w) A (dictSet a (.ref b) u) Q E s := by
  obtain ⟨hd, _, ys, rel, dd⟩ := tdict I h
  have hz : ys.length ≤ sizeLine := by rw [← rel.len]; omega
  exact wpAny_dictSet_heap (hsz := hz) hu (tkey I hb) dd fun h' dd' sb => q _ (ti_write I h hd z rel rv dd' sb)
end

/-! ### {k: v for ..}, the keys tuples of ints -/
section
variable {X : Cx}
/-- what one turn leaves: the pair is in the dict at D -/
def Stored (K : PySem.W.Frag) (D : Addr) (nx : Hp → Prop) (y z : V) (H : Hp) : Prop := ∃ xs ks b, y = .ref b ∧ SqT K H b (ks.map V.int) ∧ TiIn K H D xs ∧ xs.length < sizeLine ∧ nx (upd H D (TiD D (putI xs ks b z)))
/-- one turn of the comprehension, from the item x -/
def dTurn (K : PySem.W.Frag) (g : TG) (tt : TT) (tk tv : TE) (vs : List Nat) (σ : L2.St) (D : Addr) (nx : Hp → Prop) (x : V) (H : Hp) : Prop := g x (wipe σ vs) H fun σ2 H2 => wipe σ2 vs = wipe σ vs ∧
  tt σ2 H2 fun b H3 => if b = true then tk σ2 H3 fun y H4 => tv σ2 H4 fun z H5 => Stored K D nx y z H5 else nx H3
def tDcI (K : PySem.W.Frag) (wi : TI) (g : TG) (tt : TT) (tk tv : TE) (vs : List Nat) : TE := fun σ H Q => wi σ H fun J H1 => ∀ D, H1 D = none → ∃ W : Nat → Nat → Hp → Prop, (∃ m, W 0 m (upd H1 D (TiD D []))) ∧
  ∀ i m H, W i m H → (J.stop i H ∧ Q (.ref D) H) ∨ (J.go i H ∧ ∃ nx : Hp → Prop, (∀ H', nx H' → ∃ m', m' < m ∧ W (i + 1) m' H') ∧ ∀ x H', J.yld i H x H' → dTurn K g tt tk tv vs σ D nx x H')
theorem ti_empty {P : Program} {w : World} {H : Hp} (h : Heap) (hb : sysModules < h.objs.size) : ObjOk P w H (h.push { cls := .type "dict", data := .dict #[] }) h.objs.size (TiD h.objs.size []) :=
  TiRaw.ok ⟨beq_eq_false_iff_ne.mpr (Ne.symm (Nat.ne_of_lt hb)), Nat.zero_le _, List.nodup_nil, [], .nil, _, #[], 0, Heap.get?_push_size _ rfl, ⟨rfl, rfl, rfl⟩, rfl, rfl⟩

section
variable {kx vx tg iter : Expr} {ifs : List Expr} {scope : Scope} {own : List Nat} {pos : Pos} {g : TG} {tt : TT} {tk tv : TE} {σ : L2.St} {D it L : Addr} {J : It} {fp : List Addr} {tn : Nat → Heap → Prop} {W : Nat → Nat → Hp → Prop} {Q : VK}
/-- the loop, in the block's own context B -/
theorem dc_walk {B : Cx} {R : Result → Shared → Prop} (hc : B.calm = true) (hu : B.A.units < cLine) (T : Turn B.prog B.w B.K tg J fp it tn) (pg : PG B tg g) (pt : PTs B ifs tt) (pk : PE B kx tk) (pv : PE B vx tv)
    (stat : ∀ {τ : L2.St} {H' : Hp} {s' : Shared}, Inv B [] τ H' s' → (∀ b ∈ fp, H' b = none) → ∀ b ∈ fp, FpOk B [] H' b)
    (hW : ∀ i m H, W i m H → (J.stop i H ∧ Q (.ref D) H) ∨ (J.go i H ∧ ∃ nx : Hp → Prop, (∀ H', nx H' → ∃ m', m' < m ∧ W (i + 1) m' H') ∧ ∀ x H', J.yld i H x H' → dTurn B.K g tt tk tv own σ D nx x H'))
    (hend : ∀ s' H', Inv B [] (wipe σ own) H' s' → Q (.ref D) H' → R (.ok .next) s') (hxe : B.xe = fun _ _ => False)
    {s0 : Shared} {H0 : Hp} {m0 : Nat} (I0 : Inv B [] (wipe σ own) H0 s0) (t0 : tn 0 s0.heap) (n0 : ∀ b ∈ fp, H0 b = none) (w0 : W 0 m0 H0) :
    codeAny (model B.prog B.w) B.A (.compLoop (.DictComp kx vx [⟨tg, iter, ifs, 0⟩] scope pos) 0 (.ref it) (.ref D) B.env) R s0 := by
  refine compLoop_anyD (fun n s' => ∃ i H', Inv B [] (wipe σ own) H' s' ∧ tn i s'.heap ∧ (∀ b ∈ fp, H' b = none) ∧ W i n H') ?_ m0 ⟨0, H0, I0, t0, n0, w0⟩
  rintro n s1 ⟨i, H1, I1, t1, n1, w1⟩
  rcases hW i n H1 w1 with ⟨stop, q⟩ | ⟨go, nx, hnx, step⟩
  · refine thnF (T.done B rfl rfl rfl hc i [] s1 _ H1 (fun _ _ => False) I1 (stat I1 n1) t1 stop) fun r s2 ⟨hr, I2⟩ => ?_
    subst hr
    exact hend s2 H1 I2 q
  refine thnF (T.item B rfl rfl rfl hc i [] s1 _ H1 (fun _ _ => False) I1 (stat I1 n1) t1 go) fun r s2 ⟨u, hr, h2⟩ => ?_
  subst hr
  refine thnF h2 fun _ s3 ⟨x, H3, I3, rx, yx, t3, n3⟩ => ?_
  have I3' := I3.pinned (stat I3 n3) (T.obj _ _ t3)
  have r1 := pg.run _ s3 _ H3 x u _ I3' rx (step x H3 yx)
  rw [hxe] at r1
  refine thnF r1 fun _ s4 ⟨σ4, H4, I4, hw4, q4⟩ => ?_
  have close : ∀ {s' : Shared} {H' : Hp}, Inv B ([] ++ pinsAt fp s3.heap) σ4 H' s' → nx H' → ∃ m, m < n ∧ ∃ i H', Inv B [] (wipe σ own) H' s' ∧ tn i s'.heap ∧ (∀ b ∈ fp, H' b = none) ∧ W i m H' := fun {s' H'} I' z => by
    obtain ⟨m', hm, w'⟩ := hnx H' z
    have pin : ∀ b ∈ fp, ∀ o, s3.heap.get? b = some o → s'.heap.get? b = some o ∧ H' b = none := fun b hb o e => by
      have := I'.pin (b, o) (List.mem_append_right _ (List.mem_append_right _ (mem_pinsAt hb e)))
      exact ⟨this.1, this.2.1⟩
    refine ⟨m', hm, i + 1, H', (I'.unpinned (pins := [])).weak (by rw [← hw4, wipe_length]) (fun j v e => ?_), T.keep _ _ _ t3 fun b hb o e => (pin b hb o e).1, fun b hb => ?_, w'⟩
    · rw [← hw4] at e
      exact (wipe_some e).1
    · obtain ⟨o, e, _⟩ := T.obj _ _ t3 b hb
      exact (pin b hb o e).2
  have r2 := pt.run _ s4 σ4 H4 _ I4 q4
  rw [hxe] at r2
  refine thnF r2 fun b s5 ⟨H5, I5, q5⟩ => ?_
  cases b with
  | false => exact close I5 q5
  | true =>
    have r3 := pk.run _ s5 σ4 H5 _ I5 q5
    rw [hxe] at r3
    refine thnF r3 fun z s6 ⟨yk, H6, I6, rk, q6⟩ => ?_
    have r4 := pv.run _ s6 σ4 H6 _ I6 q6
    rw [hxe] at r4
    refine thnF r4 fun z2 s7 ⟨yv, H7, I7, rv, xs, ks, b, ey, hb, hD, hz, zz⟩ => ?_
    subst ey
    cases (show z = Value.ref b from rk)
    exact ti_new hu I7 hD hb hz rv fun s8 I8 => close I8 zz
end
theorem dcI_core {kx vx tg iter : Expr} {ifs : List Expr} {scope : Scope} {own : List (Str × Nat)} {pos pos' : Pos} {wi : TI} {g : TG} {tt : TT} {tk tv : TE} {pins : List (Addr × Obj)} {s : Shared} {σ : L2.St} {H : Hp} {Q : VK} {use : Option (Value → Sem Unit)} {Qf : Value → Shared → Prop}
    (hc : X.calm = true) (hu : X.A.units < cLine) (hN : X.N.Nodup) (I : Inv X pins σ H s) (hi : PI X tg iter wi) (ok : BlkOk X.N X.env.scope scope own)
    (hg : ∀ s H C cl fp, PG (X.blk s H scope (compEnvC scope cl C X.env) fp) tg g) (ht : ∀ s H C cl fp, PTs (X.blk s H scope (compEnvC scope cl C X.env) fp) ifs tt) (hk : ∀ s H C cl fp, PE (X.blk s H scope (compEnvC scope cl C X.env) fp) kx tk)
    (hv : ∀ s H C cl fp, PE (X.blk s H scope (compEnvC scope cl C X.env) fp) vx tv) (hs0 : ∀ x, foldedSetIterable iter X.env x = pure x) (h : tDcI X.K wi g tt tk tv (own.map (·.2)) σ H Q)
    (fin : ∀ D C s' m H', Inv X pins σ H' s' → Q (.ref D) H' → s'.heap.Ns C m → FpOk X pins H' C → compPost (model X.prog X.w) X.A X.xe use Qf (.ref D) C (.ok .next) s') :
    wpAny (model X.prog X.w) X.A (comprehension (.DictComp kx vx [⟨tg, iter, ifs, 0⟩] scope pos) scope X.env pos' newDict false (eval iter X.env) use) Qf X.xe s := by
  have free : ∀ y ∈ scope.names, y.2 = .free → ∃ c, X.env.cells.lookup y.1 = some c := fun y hy e => (ok.free y hy e).elim (fun k => I.ok.has _ (.inl k)) fun k => I.ok.has _ (.inr k)
  refine wpAny_comprehension_free (use := use) rfl hs0 (closure_ok free) ok.kind (fun y hy e => by rw [ok.uniq y hy, e]) (thn (hi.run pins s σ H _ I h) fun xv s1 hx => thn hx fun itv s2 h2 => ?_)
  obtain ⟨it, fp, tn, J, H2, rfl, I2, T, t2, f2, q⟩ := h2
  refine wpAny_newObj_type (newEnv_comp ?_)
  have hDn : H2 s2.heap.objs.size = none := I2.hok.fresh (Nat.le_refl _)
  obtain ⟨W, ⟨m0, w0⟩, turn⟩ := q _ hDn
  -- the dict is laid
  have I3 : Inv X pins σ (upd H2 s2.heap.objs.size (TiD s2.heap.objs.size [])) { s2 with heap := s2.heap.push { cls := .type "dict", data := .dict #[] } } :=
    I2.laid (t' := s2.toks) (fun b o e => Heap.get?_push_of_some _ e) (Nat.le_refl _) (ti_empty s2.heap I2.big)
  have below : ∀ b ∈ fp, b < s2.heap.objs.size := fun b hb => let ⟨_, e, _⟩ := T.obj _ _ t2 b hb; Heap.lt_size e
  have z3 : (s2.heap.push { cls := .type "dict", data := .dict #[] }).objs.size = s2.heap.objs.size + 1 := Heap.size_push ..
  have k3 : ∀ b o, s2.heap.get? b = some o → (s2.heap.push { cls := .type "dict", data := .dict #[] }).get? b = some o := fun b o e => Heap.get?_push_of_some _ e
  generalize s2.heap.push { cls := .type "dict", data := .dict #[] } = h3 at I3 z3 k3 ⊢
  have f3 : ∀ b ∈ fp, FpOk X pins (upd H2 s2.heap.objs.size (TiD s2.heap.objs.size [])) b ∧ b < h3.objs.size := fun b hb => by
    have lt := below b hb
    refine ⟨⟨?_, (f2 b hb).2⟩, by rw [z3]; exact Nat.lt_succ_of_lt lt⟩
    rw [upd_ne (Nat.ne_of_lt lt)]
    exact (f2 b hb).1
  have t3 : tn 0 h3 := T.keep _ _ _ t2 fun b _ o e => k3 b o e
  generalize hD : s2.heap.objs.size = D at *
  generalize hH : upd H2 D (TiD D []) = H3 at *
  have I4 := block_start I3 ok hN f3
  have t4 : tn 0 (pushCells (h3.push { cls := .type "dict", data := .dict #[] }) scope.names) := T.keep _ _ _ t3 fun b _ o e => pushCells_keeps _ _ _ _ (Heap.get?_push_of_some _ e)
  have walk : codeAny (model X.prog X.w) X.A (.compLoop (.DictComp kx vx [⟨tg, iter, ifs, 0⟩] scope pos) 0 (.ref it) (.ref D) (compEnvC scope (cellsFrom (h3.objs.size + 1) scope.names (cloFrom X.env.cells scope.names [])) h3.objs.size X.env))
      (compPost (model X.prog X.w) X.A X.xe use Qf (.ref D) h3.objs.size) { s2 with heap := pushCells (h3.push { cls := .type "dict", data := .dict #[] }) scope.names } := by
    refine dc_walk (B := X.blk { s2 with heap := h3 } H3 scope (compEnvC scope (cellsFrom (h3.objs.size + 1) scope.names (cloFrom X.env.cells scope.names [])) h3.objs.size X.env) fp) hc hu T (hg ..) (ht ..) (hk ..) (hv ..)
      (fun {τ H' s'} I' hn b hb => ⟨hn b hb, (I'.ok.exf b hb).1, I'.ok.exfs b hb, .inl hb, fun x c e => (I'.ok.exf b hb).2 x c e, fun p hp => absurd (show p ∈ ([] : List (Addr × Obj)) ++ [] from hp) (by simp)⟩)
      turn (fun s' H' I' q' => ?_) rfl I4 t4 (fun b hb => (f3 b hb).1.1) w0
    -- back in the context around
    have I5 : Inv X pins σ H' s' := I3.call' (ch := fp) I'.os I'.base I'.hok I'.bare fun b hb => ⟨(f3 b hb).1.2.2.2.1, (f3 b hb).1.2.1, (f3 b hb).1.2.2.2.2.1, (f3 b hb).1.2.2.2.2.2⟩
    have nC : H' h3.objs.size = none := I'.free
    obtain ⟨m, hn, _⟩ := I'.loc
    exact fin D h3.objs.size s' m H' I5 q' hn (I3.fpOk (Nat.le_refl _) nC)
  exact codeAny_compStart_dict walk (T.self X.A 0 _ _ _ t4 walk)
theorem pe_dcI {kx vx tg iter : Expr} {ifs : List Expr} {scope : Scope} {own : List (Str × Nat)} {pos : Pos} {wi : TI} {g : TG} {tt : TT} {tk tv : TE} (hc : X.calm = true) (hu : X.A.units < cLine) (hN : X.N.Nodup) (hi : PI X tg iter wi) (ok : BlkOk X.N X.env.scope scope own)
    (hg : ∀ s H C cl fp, PG (X.blk s H scope (compEnvC scope cl C X.env) fp) tg g) (ht : ∀ s H C cl fp, PTs (X.blk s H scope (compEnvC scope cl C X.env) fp) ifs tt) (hk : ∀ s H C cl fp, PE (X.blk s H scope (compEnvC scope cl C X.env) fp) kx tk)
    (hv : ∀ s H C cl fp, PE (X.blk s H scope (compEnvC scope cl C X.env) fp) vx tv) (hs0 : ∀ x, foldedSetIterable iter X.env x = pure x := by intro _; rfl) :
    PE X (.DictComp kx vx [⟨tg, iter, ifs, 0⟩] scope pos) (tDcI X.K wi g tt tk tv (own.map (·.2))) := by
  refine ⟨fun pins s σ H Q I h => ?_⟩
  rw [arm_eval_DictComp]
  refine dcI_core hc hu hN I hi ok hg ht hk hv hs0 h fun D C s' m H' I' q' hn f => ⟨m, hn, fun h5 sb => ?_⟩
  obtain ⟨c0, c1, c2, c3, c4, c5⟩ := f
  exact ⟨.ref D, H', I'.turned (t' := s'.toks) (fun b o hb e => (sb.2 b hb).trans e) c0 c1 c3 c4 c5, rfl, q'⟩
theorem sw_trueD {kx vx : Expr} {gs : List Comprehension} {scope : Scope} {pos py : Pos} {y : Str} {l : Nat} {env : Env} (hk : env.scope.kind = .function) (hy : env.scope.names.lookup y = some .local) (hl : (py.line == pos.line) = true)
    (ha : (scope.names.any fun (n, k) => n == y && (k == .local || k == .cell)) = false) : swapsWith (.DictComp kx vx gs scope pos) (some (.Name y py)) l env = pure true := by
  have e1 : env.kindOf y = some .local := hy
  have e2 : env.blockKind = .function := by unfold Env.blockKind; rw [hk]; rfl
  unfold swapsWith
  simp only [e1, e2, ha, Expr.pos, hl]
  rfl
/-- y = {k: v for ..} -/
theorem ps_setDcI {i : Nat} {y : Str} {py spos : Pos} {kx vx tg iter : Expr} {ifs : List Expr} {scope : Scope} {own : List (Str × Nat)} {pos : Pos} {wi : TI} {g : TG} {tt : TT} {tk tv : TE} (hc : X.calm = true) (hu : X.A.units < cLine) (hN : X.N.Nodup) (hy : X.N[i]? = some y)
    (hyl : X.env.scope.names.lookup y = some .local) (hsw : swapsWith (.DictComp kx vx [⟨tg, iter, ifs, 0⟩] scope pos) (some (.Name y py)) spos.line X.env = pure true) (hi : PI X tg iter wi) (ok : BlkOk X.N X.env.scope scope own)
    (hg : ∀ s H C cl fp, PG (X.blk s H scope (compEnvC scope cl C X.env) fp) tg g) (ht : ∀ s H C cl fp, PTs (X.blk s H scope (compEnvC scope cl C X.env) fp) ifs tt) (hk : ∀ s H C cl fp, PE (X.blk s H scope (compEnvC scope cl C X.env) fp) kx tk)
    (hv : ∀ s H C cl fp, PE (X.blk s H scope (compEnvC scope cl C X.env) fp) vx tv) (hs0 : ∀ x, foldedSetIterable iter X.env x = pure x := by intro _; rfl) :
    PS X (.Assign [.Name y py] (.DictComp kx vx [⟨tg, iter, ifs, 0⟩] scope pos) spos) (tAsg (tDcI X.K wi g tt tk tv (own.map (·.2))) (gName i)) := by
  refine ⟨fun pins s σ H D I h => ?_⟩
  rw [exec_Assign_Name_used _ _ _ _ hsw]
  refine wpAny_bind (wpAny_standAt (wpAny_bind ?_))
  show wpAny _ X.A (do let _ ← comprehension (.DictComp kx vx [⟨tg, iter, ifs, 0⟩] scope pos) scope X.env (firstIterPos [⟨tg, iter, ifs, 0⟩] pos) newDict false (eval iter X.env) (some (assign (.Name y py) X.env))) _ _ s
  have h' : tDcI X.K wi g tt tk tv (own.map (·.2)) σ H (fun x H1 => gName i x σ H1 D.nx) := h
  refine wpAny_bind (thn (dcI_core (Qf := fun _ s' => SP X pins D .next s') hc hu hN I hi ok hg ht hk hv hs0 h' fun L C s' m H' I' q hn f => ?_) fun _ s' z => wpAny_pure (wpAny_pure z))
  show wpAny _ _ (assign (.Name y py) X.env (.ref L)) _ _ _
  refine wpAny_assign_Name (store_ok2 (v := V.ref L) I' hN hy (.inl hyl) rfl (fun s2 I2 ⟨a, sb, ha⟩ => ?_) (.inr hyl))
  obtain ⟨c0, c1, c2, c3, c4, c5⟩ := f
  have ne : C ≠ a := ha.elim (fun z => by rw [z]; exact c1) fun z e => c4 y a z e.symm
  exact ⟨m, hn.sameBut sb ne, fun h3 sb3 => ⟨_, H', I2.turned (t' := s2.toks) (fun b o hb e => (sb3.2 b hb).trans e) c0 c1 c3 c4 c5, q⟩⟩
end
end Dg
/-! Dm: dicts whose keys are tuples of ints: the mirror. -/
namespace Dg
open PySem PySem.Spec PyProof.Rows L2

def tkeyL : List U → Option (List Int)
  | [] => some []
  | .int i :: us => (tkeyL us).map (i :: ·)
  | _ :: _ => none
def tkeyU : U → Option (List Int)
  | .tup us => tkeyL us
  | _ => none
theorem tkeyL_ok : ∀ {us : List U} {ks : List Int}, tkeyL us = some ks → us = ks.map U.int
  | [], _, e => by cases e; rfl
  | u :: us, ks, e => by
    cases u with
    | int i =>
      obtain ⟨l, h, rfl⟩ := Option.map_eq_some_iff.mp e
      rw [List.map_cons, ← tkeyL_ok h]
    | _ => cases e
theorem tkeyU_ok {K : PySem.W.Frag} {H : Hp} {ρ : List Addr} {u : U} {v : V} {ks : List Int} (r : RepV K H ρ u v) (e : tkeyU u = some ks) : ∃ b, v = .ref b ∧ SqT K H b (ks.map V.int) := by
  cases r with
  | tup hs hr =>
    rw [tkeyL_ok (show tkeyL _ = some ks from e)] at hr
    rw [RepVs.ints hr] at hs
    exact ⟨_, rfl, hs⟩
  | _ => cases e
abbrev KI := List (List Int × U)
def valUI (kus : KI) (k : List Int) : Option U := (kus.find? fun x => decide (x.1 = k)).map (·.2)
def putUI (kus : KI) (k : List Int) (u : U) : KI :=
  if (kus.any fun x => decide (x.1 = k)) = true then kus.map (fun x => if x.1 = k then (x.1, u) else x) else kus ++ [(k, u)]
inductive RepTi (K : PySem.W.Frag) (H : Hp) (ρ : List Addr) : KI → Ti → Prop
  | nil : RepTi K H ρ [] []
  | cons {k : List Int} {u : U} {b : Addr} {v : V} {kus : KI} {xs : Ti} : SqT K H b (k.map V.int) → RepV K H ρ u v → RepTi K H ρ kus xs → RepTi K H ρ ((k, u) :: kus) ((k, b, v) :: xs)
section
variable {K : PySem.W.Frag} {H : Hp} {ρ : List Addr}
theorem RepTi.of : ∀ {kus : KI} {xs : Ti}, (∀ p ∈ xs, SqT K H p.2.1 (p.1.map V.int)) → xs.map (·.1) = kus.map (·.1) → RepVs K H ρ (kus.map (·.2)) (xs.map (·.2.2)) → RepTi K H ρ kus xs
  | [], [], _, _, _ => .nil
  | [], _ :: _, _, e, _ => by simp at e
  | _ :: _, [], _, e, _ => by simp at e
  | (k, u) :: kus, (k', b, v) :: xs, h, e, r => by
    simp only [List.map_cons, List.cons.injEq] at e
    obtain ⟨rfl, e⟩ := e
    rw [List.map_cons, List.map_cons] at r
    cases r with
    | cons r1 r2 => exact .cons (h _ (List.mem_cons_self ..)) r1 (RepTi.of (fun p hp => h p (List.mem_cons_of_mem _ hp)) e r2)
theorem RepTi.to {kus : KI} {xs : Ti} (r : RepTi K H ρ kus xs) : (∀ p ∈ xs, SqT K H p.2.1 (p.1.map V.int)) ∧ xs.map (·.1) = kus.map (·.1) ∧ RepVs K H ρ (kus.map (·.2)) (xs.map (·.2.2)) := by
  induction r with
  | nil => exact ⟨(fun _ h => nomatch h), rfl, .nil⟩
  | cons h r t ih =>
    refine ⟨fun p hp => ?_, by simp only [List.map_cons, ih.2.1], by rw [List.map_cons, List.map_cons]; exact .cons r ih.2.2⟩
    rcases List.mem_cons.mp hp with rfl | hp
    · exact h
    · exact ih.1 p hp
theorem RepTi.mono {H' : Hp} {ρ' : List Addr} {kus : KI} {xs : Ti} (t : TX H H') (e : Ext ρ ρ') (r : RepTi K H ρ kus xs) : RepTi K H' ρ' kus xs := by
  induction r with
  | nil => exact .nil
  | cons h r _ ih => exact .cons (t.seq h) (r.mono t e) ih
theorem RepTi.len {kus : KI} {xs : Ti} (r : RepTi K H ρ kus xs) : xs.length = kus.length := by
  induction r with
  | nil => rfl
  | cons h r _ ih => simp [ih]
theorem RepTi.val {kus : KI} {xs : Ti} (r : RepTi K H ρ kus xs) (k : List Int) : (valUI kus k = none → valI xs k = none) ∧ ∀ u, valUI kus k = some u → ∃ v, valI xs k = some v ∧ RepV K H ρ u v := by
  induction r with
  | nil => exact ⟨fun _ => rfl, fun u e => by simp [valUI] at e⟩
  | @cons k' u b v kus xs h r t ih =>
    by_cases e : k' = k
    · refine ⟨fun q => by simp [valUI, e] at q, fun w q => ⟨v, by simp [valI, e], ?_⟩⟩
      simp [valUI, e] at q
      exact q ▸ r
    · have e1 : valUI ((k', u) :: kus) k = valUI kus k := by simp [valUI, e]
      have e2 : valI ((k', b, v) :: xs) k = valI xs k := by simp [valI, e]
      rw [e1, e2]; exact ih
theorem RepTi.any {kus : KI} {xs : Ti} (r : RepTi K H ρ kus xs) (k : List Int) : (xs.any fun x => decide (x.1 = k)) = (kus.any fun x => decide (x.1 = k)) := by
  induction r with
  | nil => rfl
  | cons h r t ih => simp [ih]
theorem RepTi.swap {k : List Int} {u : U} {v : V} (ru : RepV K H ρ u v) {kus : KI} {xs : Ti} (r : RepTi K H ρ kus xs) :
    RepTi K H ρ (kus.map fun x => if x.1 = k then (x.1, u) else x) (xs.map fun x => if x.1 = k then (x.1, x.2.1, v) else x) := by
  induction r with
  | nil => exact .nil
  | @cons k' u' b' v' kus xs h r t ih =>
    rw [List.map_cons, List.map_cons]
    by_cases e : k' = k
    · subst e
      simp only [if_true]
      exact .cons h ru ih
    · simp only [e, if_false]
      exact .cons h r ih
theorem RepTi.snoc {k : List Int} {b : Addr} {u : U} {v : V} (hb : SqT K H b (k.map V.int)) (ru : RepV K H ρ u v) {kus : KI} {xs : Ti} (r : RepTi K H ρ kus xs) : RepTi K H ρ (kus ++ [(k, u)]) (xs ++ [(k, b, v)]) := by
  induction r with
  | nil => exact .cons hb ru .nil
  | cons h r t ih => exact .cons h r ih
theorem RepTi.put {kus : KI} {xs : Ti} (r : RepTi K H ρ kus xs) {k : List Int} {b : Addr} {u : U} {v : V} (hb : SqT K H b (k.map V.int)) (ru : RepV K H ρ u v) : RepTi K H ρ (putUI kus k u) (putI xs k b v) := by
  unfold putUI putI
  rw [r.any k]
  split
  · exact r.swap ru
  · exact r.snoc hb ru
theorem dtt_of {μ : Mem} (hm : RepM K H ρ μ) {i : Nat} {a : Addr} {kus : KI} (e : ρ[i]? = some a) (h : μ[i]? = some (.dtt kus)) : ∃ xs, H a = some (TiD a xs) ∧ RepTi K H ρ kus xs := by
  obtain ⟨xs, q, m, w, r⟩ := hm.get e h
  exact ⟨xs, q, RepTi.of m w r⟩
theorem newTi {μ : Mem} (hm : RepM K H ρ μ) {p : Addr} (np : H p = none) : Stp K ρ H (ρ ++ [p]) (upd H p (TiD p [])) (μ ++ [.dtt []]) :=
  Stp.new hm np ⟨[], upd_same, (fun _ h => nomatch h), rfl, .nil⟩
theorem putTi {μ : Mem} (hm : RepM K H ρ μ) {i : Nat} {a : Addr} {kus kus' : KI} {xs' : Ti} (e : ρ[i]? = some a) (h : μ[i]? = some (.dtt kus)) (r : RepTi K H ρ kus' xs') : Stp K ρ H ρ (upd H a (TiD a xs')) (μ.set i (.dtt kus')) := by
  have t : TX H (upd H a (TiD a xs')) := (hm.get e h).tx rfl
  have q := (r.mono t (Ext.refl _)).to
  exact Stp.put hm e h rfl ⟨xs', upd_same, q.1, q.2.1, q.2.2⟩
end
def dttU (μ : Mem) : U → Option KI
  | .ref i => match μ[i]? with
    | some (.dtt kus) => some kus
    | _ => none
  | _ => none
theorem dtt_at {K : PySem.W.Frag} {ρ : List Addr} {μ : Mem} {H : Hp} {u : U} {x : V} {kus : KI} (hm : RepM K H ρ μ) (ru : RepV K H ρ u x) (hd : dttU μ u = some kus) :
    ∃ i a xs, u = .ref i ∧ ρ[i]? = some a ∧ μ[i]? = some (.dtt kus) ∧ x = .ref a ∧ H a = some (TiD a xs) ∧ RepTi K H ρ kus xs := by
  cases ru with
  | @ref i a hr =>
    have e1 : μ[i]? = some (.dtt kus) := by
      unfold dttU at hd
      simp only at hd
      split at hd
      all_goals first
        | (cases hd; assumption)
        | (cases hd; done)
    obtain ⟨xs, q1, r1⟩ := dtt_of hm hr e1
    exact ⟨i, a, xs, rfl, hr, e1, rfl, q1, r1⟩
  | _ => simp [dttU] at hd
section
variable {X : Cx} {W : WX} {k : Nat}
/-! ### in -/
def rInTi (K : PySem.W.Frag) (neg : Bool) : R2 := fun x y H Q => ∃ a b xs ks, x = .ref b ∧ y = .ref a ∧ TiIn K H a xs ∧ SqT K H b (ks.map V.int) ∧ Q (.bl (if neg then !(valI xs ks).isSome else (valI xs ks).isSome)) H
theorem op_inTi (hu : X.A.units + 1 < cLine) : OpR X (compareOp .In) (rInTi X.K false) := by
  intro pins s σ H x y v u Q I rx ry h
  obtain ⟨a, b, xs, ks, rfl, rfl, hd, hb, q⟩ := h
  obtain rfl : v = Value.ref b := rx
  obtain rfl : u = Value.ref a := ry
  exact ti_in hu I hd hb fun s' I' => ⟨.bl (valI xs ks).isSome, H, I', rfl, q⟩
theorem op_ninTi (hu : X.A.units + 1 < cLine) : OpR X (compareOp .NotIn) (rInTi X.K true) := by
  intro pins s σ H x y v u Q I rx ry h
  obtain ⟨a, b, xs, ks, rfl, rfl, hd, hb, q⟩ := h
  obtain rfl : v = Value.ref b := rx
  obtain rfl : u = Value.ref a := ry
  exact ti_nin hu I hd hb fun s' I' => ⟨.bl (!(valI xs ks).isSome), H, I', rfl, q⟩
def uInX (u w : U) (μ : Mem) : Res U := match dttU μ w with
  | some kus => match tkeyU u with
    | some ks => .ok (.bl (valUI kus ks).isSome) μ
    | none => .bad
  | none => uIn u w μ
def uNinX (u w : U) (μ : Mem) : Res U := match dttU μ w with
  | some kus => match tkeyU u with
    | some ks => .ok (.bl (!(valUI kus ks).isSome)) μ
    | none => .bad
  | none => uNin u w μ
theorem RepTi.isSome {K : PySem.W.Frag} {H : Hp} {ρ : List Addr} {kus : KI} {xs : Ti} (r : RepTi K H ρ kus xs) (k : List Int) : (valI xs k).isSome = (valUI kus k).isSome := by
  cases e : valUI kus k with
  | none => rw [(r.val k).1 e]; rfl
  | some u => obtain ⟨v, q, _⟩ := (r.val k).2 u e; rw [q]; rfl
theorem os_inX (G : Good X W (k + 40)) : OpS X W (compareOp .In) uInX := by
  intro ρ μ σ H u w x y Q hm ru rw' h
  unfold uInX at h
  cases e : dttU μ w with
  | none => rw [e] at h; exact os_in G ρ μ σ H u w x y Q hm ru rw' h
  | some kus =>
    rw [e] at h
    simp only at h
    cases ek : tkeyU u with
    | none => rw [ek] at h; exact h.elim
    | some ks =>
      rw [ek] at h
      obtain ⟨i, a, xs, rfl, hr, em, rfl, hH, r⟩ := dtt_at hm rw' e
      obtain ⟨b, rfl, hb⟩ := tkeyU_ok ru ek
      exact ⟨_, op_inTi G.hu, a, b, xs, ks, rfl, rfl, ⟨hH, r.to.1⟩, hb, h.ok (Stp.refl hm) (by simp only [Bool.false_eq_true, if_false, r.isSome]; exact .bl)⟩
theorem os_ninX (G : Good X W (k + 40)) : OpS X W (compareOp .NotIn) uNinX := by
  intro ρ μ σ H u w x y Q hm ru rw' h
  unfold uNinX at h
  cases e : dttU μ w with
  | none => rw [e] at h; exact os_nin G ρ μ σ H u w x y Q hm ru rw' h
  | some kus =>
    rw [e] at h
    simp only at h
    cases ek : tkeyU u with
    | none => rw [ek] at h; exact h.elim
    | some ks =>
      rw [ek] at h
      obtain ⟨i, a, xs, rfl, hr, em, rfl, hH, r⟩ := dtt_at hm rw' e
      obtain ⟨b, rfl, hb⟩ := tkeyU_ok ru ek
      exact ⟨_, op_ninTi G.hu, a, b, xs, ks, rfl, rfl, ⟨hH, r.to.1⟩, hb, h.ok (Stp.refl hm) (by simp only [if_true, r.isSome]; exact .bl)⟩

/-! ### d[t] = e -/
def rSetTi (K : PySem.W.Frag) : TSet := fun o i v H Q => ∃ a b xs ks, o = .ref a ∧ i = .ref b ∧ TiIn K H a xs ∧ SqT K H b (ks.map V.int) ∧ xs.length < sizeLine ∧ Q (upd H a (TiD a (putI xs ks b v)))
theorem set_ti (hu : X.A.units + 1 < cLine) : PSet X (rSetTi X.K) := by
  intro pins s σ H o i v ov iv u Q I ro ri rv h
  obtain ⟨a, b, xs, ks, rfl, rfl, hd, hb, hz, q⟩ := h
  obtain rfl : ov = Value.ref a := ro
  obtain rfl : iv = Value.ref b := ri
  exact ti_set hu I hd hb hz rv fun s' I' => ⟨_, I', q⟩
def stUX (o i u : U) (μ : Mem) : Option Mem := match o with
  | .ref r => match μ[r]? with
    | some (.dtt kus) => match tkeyU i with
      | some ks => if kus.length < lim then some (μ.set r (.dtt (putUI kus ks u))) else none
      | none => none
    | _ => stU o i u μ
  | _ => stU o i u μ
def sStoreX (o i a : FE) : FS := fun s μ => ofR (a s μ) s fun u μ1 => ofR (o s μ1) s fun x μ2 => ofR (i s μ2) s fun y μ3 => match stUX x y u μ3 with
  | some μ4 => .nx s μ4
  | none => .bad
theorem stUX_no {o i u : U} {μ : Mem} (h : dttU μ o = none) : stUX o i u μ = stU o i u μ := by
  unfold stUX
  cases o with
  | ref r =>
    simp only
    split
    · rename_i kus e
      simp [dttU, e] at h
    · rfl
  | _ => rfl
theorem cs_storeX {o i e : Expr} {mo mi me : FE} {pos pos' : Pos} (G : Good X W (k + 40)) (ho : CE X W o mo) (hi : CE X W i mi) (he : CE X W e me)
    (h1 : ∀ {to ti te : TE}, PE X o to → PE X i ti → PE X e te → PS X (.Assign [.Subscript o i pos'] e pos) (tAsg te (gSub to ti rSetL)))
    (h2 : ∀ {to ti te : TE}, PE X o to → PE X i ti → PE X e te → PS X (.Assign [.Subscript o i pos'] e pos) (sDPut to ti te))
    (h3 : ∀ {to ti te : TE}, PE X o to → PE X i ti → PE X e te → PS X (.Assign [.Subscript o i pos'] e pos) (tAsg te (gSub to ti (rSetTi X.K)))) : CS X W (.Assign [.Subscript o i pos'] e pos) (sStoreX mo mi me) := by
  intro ρ μ s σ H D hs hm h
  by_cases hd : ∃ u μ1 x μ2 y μ3 kus, me s μ = .ok u μ1 ∧ mo s μ1 = .ok x μ2 ∧ mi s μ2 = .ok y μ3 ∧ dttU μ3 x = some kus
  · obtain ⟨u, μ1, x, μ2, y, μ3, kus, e1, e2, e3, e4⟩ := hd
    refine ⟨_, h3 pe_w pe_w pe_w, ?_⟩
    unfold sStoreX at h
    simp only [e1, e2, e3, ofR] at h
    refine he ρ μ s σ H _ hs hm ?_
    rw [e1]
    intro uv H1 ρ1 t1 r1
    refine ho ρ1 μ1 s σ H1 _ (t1.s hs) t1.mem ?_
    rw [e2]
    intro xv H2 ρ2 t2 r2
    refine hi ρ2 μ2 s σ H2 _ (t2.s (t1.s hs)) t2.mem ?_
    rw [e3]
    intro yv H3 ρ3 t3 r3
    have g4 := PostS.from ((t1.trans t2).trans t3) h
    obtain ⟨r, a, xs, rfl, hr, em, rfl, hH, rk⟩ := dtt_at t3.mem (t3.v r2) e4
    simp only [stUX, em] at g4
    cases ek : tkeyU y with
    | none => rw [ek] at g4; exact g4.elim
    | some ks =>
      rw [ek] at g4
      simp only at g4
      by_cases hz : kus.length < lim
      · rw [if_pos hz] at g4
        obtain ⟨b, rfl, hb⟩ := tkeyU_ok r3 ek
        have t4 := putTi t3.mem hr em (rk.put hb (t3.v (t2.v r1)))
        exact ⟨a, b, xs, ks, rfl, rfl, ⟨hH, rk.to.1⟩, hb, by rw [rk.len]; exact lim_lt hz, g4 σ _ ρ3 t4 (t4.s (t3.s (t2.s (t1.s hs))))⟩
      · rw [if_neg hz] at g4; exact g4.elim
  · refine cs_store G ho hi he h1 h2 ρ μ s σ H D hs hm ?_
    have e : sStoreX mo mi me s μ = sStore mo mi me s μ := by
      unfold sStoreX sStore
      cases e1 : me s μ with
      | ok u μ1 =>
        simp only [ofR]
        cases e2 : mo s μ1 with
        | ok x μ2 =>
          simp only
          cases e3 : mi s μ2 with
          | ok y μ3 =>
            simp only
            have n : dttU μ3 x = none := by
              cases q : dttU μ3 x with
              | none => rfl
              | some kus => exact absurd ⟨u, μ1, x, μ2, y, μ3, kus, e1, e2, e3, q⟩ hd
            rw [stUX_no n]
            try (cases stU x y u μ3 <;> rfl)
          | _ => rfl
        | _ => rfl
      | _ => rfl
    rw [← e]
    exact h

/-! ### {t: v for ..} -/
def dcGo (j : IterU) (own : List Nat) (g : Tgt) (t : FT) (kk e : FE) (s : Slots) (D : Nat) : Nat → Nat → Mem → Res U
  | 0, _, _ => .bad
  | f + 1, i, μ => match itemAt j i μ with
    | none => .bad
    | some none => .ok (.ref D) μ
    | some (some u) => match setT g u (wipeU s own) with
      | none => .bad
      | some s1 => match t s1 μ with
        | .ok true μ3 => match kk s1 μ3 with
          | .ok kv μ4 => match e s1 μ4 with
            | .ok v μ5 => match μ5[D]? with
              | some (.dtt acc) => match tkeyU kv with
                | some ks => if acc.length < lim then dcGo j own g t kk e s D f (i + 1) (μ5.set D (.dtt (putUI acc ks v))) else .bad
                | none => .bad
              | _ => .bad
            | _ => .bad
          | _ => .bad
        | .ok false μ3 => dcGo j own g t kk e s D f (i + 1) μ3
        | _ => .bad
def fDcI (it : FI) (own : List Nat) (g : Tgt) (t : FT) (kk e : FE) : FE := fun s μ => (it s μ).bind fun j μ1 => dcGo j own g t kk e s μ1.length fuelF 0 (μ1 ++ [.dtt []])
theorem Post.into {α β : Type} {σ : L2.St} {rel : RelT α β} {ρ ρ1 : List Addr} {H H1 : Hp} {μ1 : Mem} {r : Res α} {Q : β → Hp → Prop} (t : Stp X.K ρ H ρ1 H1 μ1) (h : Post X W σ rel ρ H r Q) : Post X W σ rel ρ1 H1 r Q := by
  cases r with
  | ok c m2 => exact fun v2 H3 ρ3 t3 q3 => h v2 H3 ρ3 (t.trans t3) q3
  | ex c m2 => exact fun cls H3 ρ3 t3 e => h cls H3 ρ3 (t.trans t3) e
  | bad => exact h
theorem dcI_reads {tg iter : Expr} {ifs : List Expr} {kx vx : Expr} {scope : Scope} {own : List Nat} {mi : FI} {g : Tgt} {t : FT} {kk e : FE} (hi : CI X W tg iter mi)
    (hg : ∀ s H0 C cl fp, CG (X.blk s H0 scope (compEnvC scope cl C X.env) fp) tg g) (ht : ∀ s H0 C cl fp, CTs (X.blk s H0 scope (compEnvC scope cl C X.env) fp) W0 ifs t)
    (hk : ∀ s H0 C cl fp, CE (X.blk s H0 scope (compEnvC scope cl C X.env) fp) W0 kx kk) (he : ∀ s H0 C cl fp, CE (X.blk s H0 scope (compEnvC scope cl C X.env) fp) W0 vx e) (hsub : subT g own = true)
    {ρ : List Addr} {μ : Mem} {s : Slots} {σ : L2.St} {H : Hp} {Q : VK} (hs : RepS X.K H ρ s σ) (hm : RepM X.K H ρ μ) (h : Post X W σ relV ρ H (fDcI mi own g t kk e s μ) Q) :
    tDcI X.K (WI X tg iter) (WGb X scope tg) (WTb X scope ifs) (WEb X scope kx) (WEb X scope vx) own σ H Q := by
  refine hi ρ μ s σ H _ hs hm (h.bind fun j μ1 J H1 ρ1 t1 r1 h1 => ?_)
  intro D hD
  have hJ : ItOk X.K ρ1 H1 j J := r1
  have tD := newTi t1.mem hD
  refine ⟨fun i m H' => ∃ ρ' μ', Stp X.K (ρ1 ++ [D]) (upd H1 D (TiD D [])) ρ' H' μ' ∧ Post X W σ relV ρ' H' (dcGo j own g t kk e s μ1.length m i μ') Q, ⟨fuelF, ρ1 ++ [D], μ1 ++ [.dtt []], Stp.refl tD.mem, h1.into tD⟩, ?_⟩
  intro i m H' ⟨ρ', μ', t', h'⟩
  have hDr : ρ'[μ1.length]? = some D := t'.ext.get (by rw [← t1.mem.len, List.getElem?_append_right (Nat.le_refl _)]; simp)
  cases m with
  | zero => exact h'.elim
  | succ m =>
    have q := hJ i ρ' H' μ' (tD.ext.trans t'.ext) (tD.tx.trans t'.tx) t'.mem
    unfold dcGo at h'
    cases e0 : itemAt j i μ' with
    | none => rw [e0] at h'; exact h'.elim
    | some o =>
      rw [e0] at h' q
      cases o with
      | none => exact .inl ⟨q, h'.ok (Stp.refl t'.mem) (.ref hDr)⟩
      | some u =>
        refine .inr ⟨q.1, fun H2 => ∃ ρ2 μ2, Stp X.K (ρ1 ++ [D]) (upd H1 D (TiD D [])) ρ2 H2 μ2 ∧ Post X W σ relV ρ2 H2 (dcGo j own g t kk e s μ1.length m (i + 1) μ2) Q, fun H2 z => ⟨m, Nat.lt_succ_self m, z⟩, fun x H'' y => ?_⟩
        obtain ⟨t2, ru⟩ := q.2 x H'' y
        simp only at h'
        have hsw : RepS X.K H'' ρ' (wipeU s own) (wipe σ own) := (t2.s (t'.s (tD.s (t1.s hs)))).wipe own
        cases es : setT g u (wipeU s own) with
        | none => rw [es] at h'; exact h'.elim
        | some s1 =>
          rw [es] at h'
          simp only at h'
          intro s0 H0 C cl fp
          refine hg s0 H0 C cl fp ρ' (wipeU s own) (wipe σ own) H'' u x s1 _ hsw ru es fun σ3 hs3 hw => ⟨?_, ?_⟩
          · have := hw own (subT_ok hsub)
            rw [this]
            exact wipe_wipe fun i hi => hi
          · intro s0' H0' C' cl' fp'
            refine ht s0' H0' C' cl' fp' ρ' μ' s1 σ3 H'' _ hs3 t2.mem ?_
            cases et : t s1 μ' with
            | ex c m2 => rw [et] at h'; exact h'.elim
            | bad => rw [et] at h'; exact h'.elim
            | ok b μ3 =>
              rw [et] at h'
              intro b' H4 ρ4 t4 r4
              cases r4
              cases b with
              | false => exact iteF ⟨ρ4, μ3, (t'.trans t2).trans t4, Post.into (t2.trans t4) h'⟩
              | true =>
                refine iteT ?_
                intro s0' H0' C' cl' fp'
                refine hk s0' H0' C' cl' fp' ρ4 μ3 s1 σ3 H4 _ (t4.s hs3) t4.mem ?_
                simp only at h'
                cases ekk : kk s1 μ3 with
                | ex c m2 => rw [ekk] at h'; exact h'.elim
                | bad => rw [ekk] at h'; exact h'.elim
                | ok kv μ4 =>
                  rw [ekk] at h'
                  simp only at h'
                  intro yk H5 ρ5 t5 r5
                  intro s0' H0' C' cl' fp'
                  refine he s0' H0' C' cl' fp' ρ5 μ4 s1 σ3 H5 _ (t5.s (t4.s hs3)) t5.mem ?_
                  cases ee : e s1 μ4 with
                  | ex c m2 => rw [ee] at h'; exact h'.elim
                  | bad => rw [ee] at h'; exact h'.elim
                  | ok v μ5 =>
                    rw [ee] at h'
                    simp only at h'
                    intro w H6 ρ6 t6 r6
                    split at h'
                    · rename_i acc em
                      split at h'
                      · rename_i ks ek
                        split at h'
                        · rename_i hz
                          have hD6 : ρ6[μ1.length]? = some D := t6.ext.get (t5.ext.get (t4.ext.get (t2.ext.get hDr)))
                          obtain ⟨xs, q6, rr⟩ := dtt_of t6.mem hD6 em
                          obtain ⟨b, rfl, hb⟩ := tkeyU_ok (t6.v r5) ek
                          have t7 := putTi t6.mem hD6 em (rr.put hb r6)
                          exact ⟨xs, ks, b, rfl, hb, ⟨q6, rr.to.1⟩, by rw [rr.len]; exact lim_lt hz, ρ6, _, ((((t'.trans t2).trans t4).trans t5).trans t6).trans t7, Post.into ((((t2.trans t4).trans t5).trans t6).trans t7) h'⟩
                        · exact h'.elim
                      · exact h'.elim
                    · exact h'.elim
theorem ce_dcI {tg iter : Expr} {ifs : List Expr} {kx vx : Expr} {scope : Scope} {own : List (Str × Nat)} {pos : Pos} {mi : FI} {g : Tgt} {t : FT} {kk e : FE} (G : Good X W (k + 40)) (hN : X.N.Nodup) (ok : BlkOk X.N X.env.scope scope own) (hi : CI X W tg iter mi)
    (hg : ∀ s H0 C cl fp, CG (X.blk s H0 scope (compEnvC scope cl C X.env) fp) tg g) (ht : ∀ s H0 C cl fp, CTs (X.blk s H0 scope (compEnvC scope cl C X.env) fp) W0 ifs t)
    (hk : ∀ s H0 C cl fp, CE (X.blk s H0 scope (compEnvC scope cl C X.env) fp) W0 kx kk) (he : ∀ s H0 C cl fp, CE (X.blk s H0 scope (compEnvC scope cl C X.env) fp) W0 vx e) (hsub : subT g (own.map (·.2)) = true)
    (hs0 : ∀ x, foldedSetIterable iter X.env x = pure x := by intro _; rfl) : CE X W (.DictComp kx vx [⟨tg, iter, ifs, 0⟩] scope pos) (fDcI mi (own.map (·.2)) g t kk e) :=
  fun ρ μ s σ H Q hs hm h => ⟨_, pe_dcI G.calm (Nat.lt_of_succ_lt G.hu) hN pi_w ok pg_wb pts_wb pe_wb pe_wb hs0, dcI_reads hi hg ht hk he hsub hs hm h⟩
theorem cs_setDcI {i : Nat} {y : Str} {py : Pos} {tg iter : Expr} {ifs : List Expr} {kx vx : Expr} {scope : Scope} {own : List (Str × Nat)} {pos spos : Pos} {mi : FI} {g : Tgt} {t : FT} {kk e : FE} (G : Good X W (k + 40)) (hN : X.N.Nodup) (hy : X.N[i]? = some y) (hyl : X.env.scope.names.lookup y = some .local)
    (hsw : swapsWith (.DictComp kx vx [⟨tg, iter, ifs, 0⟩] scope pos) (some (.Name y py)) spos.line X.env = pure true) (ok : BlkOk X.N X.env.scope scope own) (hi : CI X W tg iter mi)
    (hg : ∀ s H0 C cl fp, CG (X.blk s H0 scope (compEnvC scope cl C X.env) fp) tg g) (ht : ∀ s H0 C cl fp, CTs (X.blk s H0 scope (compEnvC scope cl C X.env) fp) W0 ifs t)
    (hk : ∀ s H0 C cl fp, CE (X.blk s H0 scope (compEnvC scope cl C X.env) fp) W0 kx kk) (he : ∀ s H0 C cl fp, CE (X.blk s H0 scope (compEnvC scope cl C X.env) fp) W0 vx e) (hsub : subT g (own.map (·.2)) = true)
    (hs0 : ∀ x, foldedSetIterable iter X.env x = pure x := by intro _; rfl) :
    CS X W (.Assign [.Name y py] (.DictComp kx vx [⟨tg, iter, ifs, 0⟩] scope pos) spos) (sAsg (.one i) (fDcI mi (own.map (·.2)) g t kk e)) := by
  intro ρ μ s σ H D hs hm h
  refine ⟨_, ps_setDcI G.calm (Nat.lt_of_succ_lt G.hu) hN hy hyl hsw pi_w ok pg_wb pts_wb pe_wb pe_wb hs0, ?_⟩
  refine dcI_reads (W := W) hi hg ht hk he hsub hs hm ?_
  exact PostS.bind hs h fun u μ1 x H1 ρ1 t1 r1 h1 => h1 _ H1 ρ1 (Stp.refl t1.mem) ((t1.s hs).set r1)
end
end Dg
/-! Dn: pairs of ints: >=, sorted. -/
namespace Dg
open PySem PySem.Spec PyProof.Rows L2
def prU (p : Int × Int) : U := .tup [.int p.1, .int p.2]
def prsU : List U → Option (List (Int × Int))
  | [] => some []
  | .tup [.int a, .int b] :: us => (prsU us).map ((a, b) :: ·)
  | _ :: _ => none
theorem prsU_ok : ∀ {us : List U} {ps : List (Int × Int)}, prsU us = some ps → us = ps.map prU
  | [], _, e => by cases e; rfl
  | u :: us, ps, e => by
    unfold prsU at e
    split at e
    · rename_i h; cases h
    · rename_i a b us' h
      cases h
      obtain ⟨l, h, rfl⟩ := Option.map_eq_some_iff.mp e
      rw [List.map_cons, ← prsU_ok h]
      rfl
    · cases e
theorem prsU_map : ∀ ps : List (Int × Int), prsU (ps.map prU) = some ps
  | [] => rfl
  | p :: ps => by simp [prsU, prU, prsU_map ps]
/-- p before q -/
def ltPr (p q : Int × Int) : Bool := SrtO.lexB p q
def insP (x : Int × Int) : List (Int × Int) → List (Int × Int)
  | [] => [x]
  | y :: ys => if ltPr y x = true then y :: insP x ys else x :: y :: ys
def sortP : List (Int × Int) → List (Int × Int)
  | [] => []
  | x :: xs => insP x (sortP xs)
theorem insP_perm (x : Int × Int) : ∀ ys, (insP x ys).Perm (x :: ys)
  | [] => List.Perm.refl _
  | y :: ys => by
    unfold insP
    split
    · exact ((insP_perm x ys).cons y).trans (List.Perm.swap x y ys)
    · exact List.Perm.refl _
theorem sortP_perm : ∀ xs, (sortP xs).Perm xs
  | [] => List.Perm.refl _
  | x :: xs => (insP_perm x (sortP xs)).trans ((sortP_perm xs).cons x)
abbrev leP (x y : Int × Int) : Prop := ltPr y x = false
theorem leP_trans {x y z : Int × Int} (a : leP x y) (b : leP y z) : leP x z := by
  have a := SrtO.lexB_no.mp a
  have b := SrtO.lexB_no.mp b
  exact SrtO.lexB_no.mpr (by omega)
theorem leP_anti {x y : Int × Int} (a : leP x y) (b : leP y x) : x = y := by
  have a := SrtO.lexB_no.mp a
  have b := SrtO.lexB_no.mp b
  exact Prod.ext (by omega) (by omega)
theorem leP_of_lt {x y : Int × Int} (a : ltPr x y = true) : leP x y := by
  have a := SrtO.lexB_iff.mp a
  exact SrtO.lexB_no.mpr (by omega)
theorem insP_sorted (x : Int × Int) : ∀ ys : List (Int × Int), ys.Pairwise leP → (insP x ys).Pairwise leP
  | [], _ => by simp [insP]
  | y :: ys, h => by
    unfold insP
    rw [List.pairwise_cons] at h
    split
    · rename_i c
      rw [List.pairwise_cons]
      refine ⟨fun z hz => ?_, insP_sorted x ys h.2⟩
      rcases List.mem_cons.mp ((insP_perm x ys).mem_iff.mp hz) with e | e
      · rw [e]; exact leP_of_lt c
      · exact h.1 z e
    · rename_i c
      have c' : leP x y := by simpa using c
      rw [List.pairwise_cons, List.pairwise_cons]
      refine ⟨fun z hz => ?_, h⟩
      rcases List.mem_cons.mp hz with e | e
      · rw [e]; exact c'
      · exact leP_trans c' (h.1 z e)
theorem sortP_sorted : ∀ xs, (sortP xs).Pairwise leP
  | [] => .nil
  | x :: xs => insP_sorted x _ (sortP_sorted xs)
theorem uniqueP : ∀ {a b : List (Int × Int)}, a.Perm b → a.Pairwise leP → b.Pairwise leP → a = b
  | [], b, h, _, _ => (List.Perm.eq_nil h.symm).symm
  | x :: a, [], h, _, _ => absurd h.length_eq (by simp)
  | x :: a, y :: b, h, ha, hb => by
    rw [List.pairwise_cons] at ha hb
    have e : x = y := by
      have h1 : x ∈ y :: b := h.mem_iff.mp (List.mem_cons_self ..)
      have h2 : y ∈ x :: a := h.mem_iff.mpr (List.mem_cons_self ..)
      rcases List.mem_cons.mp h1 with e | h1
      · exact e
      · rcases List.mem_cons.mp h2 with e | h2
        · exact e.symm
        · exact leP_anti (ha.1 y h2) (hb.1 x h1)
    subst e
    rw [uniqueP h.cons_inv ha.2 hb.2]
section
variable {X : Cx} {W : WX} {k : Nat}
def rGeP (K : PySem.W.Frag) : R2 := fun x y H Q => ∃ (a b : Addr) (p q : Int × Int), x = .ref a ∧ y = .ref b ∧ SqT K H a [.int p.1, .int p.2] ∧ SqT K H b [.int q.1, .int q.2] ∧ Q (.bl (!ltPr p q)) H
theorem holds_pr {pins : List (Addr × Obj)} {σ : L2.St} {H : Hp} {s : Shared} {a : Addr} {p : Int × Int} (I : Inv X pins σ H s) (h : SqT X.K H a [.int p.1, .int p.2]) : PySem.W.Holds s.heap (.ref a) p := by
  obtain ⟨as, r⟩ := Dp.reads I (.tuple [.int p.1, .int p.2]) (.ref a) (.ref a) (.tup h (.cons (.int _) (.cons (.int _) .nil))) rfl
  exact ⟨as, r⟩
theorem op_geP (hu : X.A.units + 800 < cLine) : OpR X (compareOp .GtE) (rGeP X.K) := by
  intro pins s σ H x y v u Q I rx ry h
  obtain ⟨a, b, p, q, rfl, rfl, ha, hb, z⟩ := h
  obtain rfl : v = Value.ref a := rx
  obtain rfl : u = Value.ref b := ry
  refine PySem.W.ge_datum (holds_pr I ha) (holds_pr I hb) (Nat.lt_of_le_of_lt (Nat.add_le_add_left (by decide) _) hu) ⟨.bl (!ltPr p q), H, I, rfl, z⟩
def uGeX (u w : U) (μ : Mem) : Res U := match u, w with
  | .tup [.int a, .int b], .tup [.int c, .int d] => .ok (.bl (!ltPr (a, b) (c, d))) μ
  | u, w => uGe u w μ
theorem os_geX (G : Good X W (k + 40)) : OpS X W (compareOp .GtE) uGeX := by
  intro ρ μ σ H u w x y Q hm ru rw' h
  unfold uGeX at h
  split at h
  · rename_i a b c d
    cases ru with
    | tup h1 r1 =>
      cases rw' with
      | tup h2 r2 =>
        have e1 := RepVs.ints (is := [a, b]) r1
        have e2 := RepVs.ints (is := [c, d]) r2
        subst e1 e2
        exact ⟨_, op_geP G.un, _, _, (a, b), (c, d), rfl, rfl, h1, h2, h.ok (Stp.refl hm) .bl⟩
  · exact os_ge ρ μ σ H u w x y Q hm ru rw' h
/-- the pairs ps stand as tuples -/
abbrev PrA (K : PySem.W.Frag) (H : Hp) : List (Int × Int) → List V → Prop := Paired fun p x => ∃ t, x = V.ref t ∧ SqT K H t [.int p.1, .int p.2]
/-- sorted(xs), xs a list of pairs of ints -/
def rSortedPQ (K : PySem.W.Frag) : List V → Hp → VK → Prop := fun vs H Q => ∃ (a : Addr) (xs : List V) (ps : List (Int × Int)), vs = [V.ref a] ∧ SqL K H a xs ∧ PrA K H ps xs ∧
  ∀ ys p, PrA K H (sortP ps) ys → H p = none → Q (.ref p) (upd H p (.lst ys))
open Classical in
noncomputable def prK (K : PySem.W.Frag) (H : Hp) (x : V) : Int × Int := if h : ∃ (p : Int × Int) (t : Addr), x = V.ref t ∧ SqT K H t [.int p.1, .int p.2] then h.choose else (0, 0)
theorem prK_ok {K : PySem.W.Frag} {H : Hp} {x : V} {p : Int × Int} {t : Addr} (e : x = V.ref t) (h : SqT K H t [.int p.1, .int p.2]) : ∃ t', x = V.ref t' ∧ SqT K H t' [.int (prK K H x).1, .int (prK K H x).2] := by
  have ex : ∃ (p : Int × Int) (t : Addr), x = V.ref t ∧ SqT K H t [.int p.1, .int p.2] := ⟨p, t, e, h⟩
  unfold prK
  rw [dif_pos ex]
  exact ex.choose_spec
theorem PrA.mk {K : PySem.W.Frag} {H : Hp} (f : V → Int × Int) : ∀ {ys : List V}, (∀ y ∈ ys, ∃ t, y = V.ref t ∧ SqT K H t [.int (f y).1, .int (f y).2]) → PrA K H (ys.map f) ys
  | [], _ => .nil
  | y :: ys, all => .cons (all y (List.mem_cons_self ..)) (PrA.mk f fun z hz => all z (List.mem_cons_of_mem _ hz))
theorem cr_sortedPQ : CallR X (.builtin "sorted") (rSortedPQ X.K) := by
  intro pins s σ H vs us Q I r h
  obtain ⟨a, xs, ps, rfl, hs, hps, q⟩ := h
  obtain ⟨its, rv, hl, hz⟩ := I.list hs
  obtain ⟨u, rfl, ru⟩ := vals1 r
  obtain rfl : u = Value.ref a := ru
  -- the pair of each
  have hk : ps = xs.map (prK X.K H) ∧ ∀ x ∈ xs, ∃ t, x = V.ref t ∧ SqT X.K H t [.int (prK X.K H x).1, .int (prK X.K H x).2] := by
    clear hs rv hl q r hz
    induction hps with
    | nil => exact ⟨rfl, fun _ h => nomatch h⟩
    | @cons p x ps xs h t ih =>
      obtain ⟨a, rfl, ha⟩ := h
      obtain ⟨a', e, ha'⟩ := prK_ok rfl ha
      cases e
      have e := I.tuple_inj ha ha'
      simp only [List.cons.injEq, V.int.injEq, and_true] at e
      have ep : p = prK X.K H (V.ref a) := Prod.ext e.1 e.2
      refine ⟨by rw [List.map_cons, ← ep, ← ih.1], fun y hy => ?_⟩
      rcases List.mem_cons.mp hy with rfl | hy
      · exact ⟨a, rfl, ha'⟩
      · exact ih.2 y hy
  obtain ⟨ek, hx⟩ := hk
  obtain ⟨e1, e2⟩ := refs_back rv fun x m => let ⟨t, e, _⟩ := hx x m; ⟨t, e⟩
  refine SrtO.sorted_pairsO (k := fun u => prK X.K H (backV u)) hl.isList (by rw [← rv.length]; exact hz) (fun v hv => ?_) fun h' d out h1 h2 kp hd hn => ?_
  · obtain ⟨t, rfl⟩ := e2 v hv
    obtain ⟨t', e, ht⟩ := hx (V.ref t) (by rw [e1]; exact List.mem_map.mpr ⟨_, hv, rfl⟩)
    cases e
    obtain ⟨its2, r2, ⟨o, ho, hc, n, hd⟩, _⟩ := I.tuple ht
    obtain ⟨u1, u2, rfl, ⟨t1, rfl⟩, ⟨t2, rfl⟩⟩ := vals2 r2
    exact ⟨t, o, t1, t2, n, rfl, ho, hc, hd⟩
  · have h3 : ∀ u ∈ out, ∃ a, u = Value.ref a := fun u hu => e2 u (h2.perm.mem_iff.mp hu)
    obtain ⟨n, hn⟩ := hn
    have pm : (out.map backV).Perm xs := by rw [e1]; exact h2.perm.map _
    have sd : ((out.map backV).map (prK X.K H)).Pairwise leP := by
      have := SrtO.srtd_map (lt := ltP (prK X.K H)) h1
      exact List.pairwise_map.mpr this
    have es : sortP ps = (out.map backV).map (prK X.K H) := uniqueP (((sortP_perm ps).trans (List.Perm.of_eq ek)).trans (pm.map _).symm) (sortP_sorted ps) sd
    refine ⟨.ref d, upd H d (.lst (out.map backV)), I.laid (t' := s.toks) kp hd ⟨by rw [pm.length_eq]; exact hz, out, n, vals_back h3, hn⟩, rfl, q _ d ?_ (I.hok.fresh hd)⟩
    rw [es]
    exact PrA.mk _ fun y hy => hx y (pm.mem_iff.mp hy)
theorem PrA.of {K : PySem.W.Frag} {H : Hp} {ρ : List Addr} : ∀ {ps : List (Int × Int)} {xs : List V}, RepVs K H ρ (ps.map prU) xs → PrA K H ps xs
  | [], _, r => by cases r; exact .nil
  | p :: ps, _, r => by
    rw [List.map_cons] at r
    cases r with
    | cons r rr =>
      cases r with
      | tup h r2 =>
        have e := RepVs.ints (is := [p.1, p.2]) r2
        subst e
        exact .cons ⟨_, rfl, h⟩ (PrA.of rr)
theorem PrA.to {K : PySem.W.Frag} {H : Hp} {ρ : List Addr} {ps : List (Int × Int)} {xs : List V} (r : PrA K H ps xs) : RepVs K H ρ (ps.map prU) xs := by
  induction r with
  | nil => exact .nil
  | cons h t ih =>
    obtain ⟨a, rfl, h⟩ := h
    exact .cons (.tup h (RepVs.ofInts [_, _])) ih
def bSortedX (us : List U) (μ : Mem) : Res U := match us with
  | [u] => match lstU μ u with
    | some xs => match prsU xs with
      | some ps => .ok (.ref μ.length) (μ ++ [.lst ((sortP ps).map prU)])
      | none => bSorted [u] μ
    | none => bSorted [u] μ
  | us => bSorted us μ
theorem cs_sortedX (hc : X.calm = true) : CallS X W (.builtin "sorted") bSortedX := by
  intro ρ μ σ H us vs Q hm r h
  unfold bSortedX at h
  split at h
  · rename_i u
    cases e1 : lstU μ u with
    | none => rw [e1] at h; exact cs_sorted hc ρ μ σ H _ vs Q hm r h
    | some xs =>
      rw [e1] at h
      simp only at h
      cases e2 : prsU xs with
      | none => rw [e2] at h; exact cs_sorted hc ρ μ σ H _ vs Q hm r h
      | some ps =>
        rw [e2] at h
        cases r with
        | cons ru r0 =>
          cases r0
          obtain ⟨a, ws, rfl, hq, rr⟩ := lstU_ok hm ru e1
          rw [prsU_ok e2] at rr
          exact ⟨_, cr_sortedPQ, a, ws, ps, rfl, hq, PrA.of rr, fun ys p hy hp => h.ok (newL hm hp (PrA.to hy)) (refN hm)⟩
  · exact cs_sorted hc ρ μ σ H _ vs Q hm r h
end
end Dg
/-! Dv: a walk over reversed(x), x a list or a tuple. -/
namespace Dg
open PySem PySem.Spec PyProof.Rows L2
theorem it_rev {K : PySem.W.Frag} {H : Hp} {ρ : List Addr} {r n : Nat} {a : Addr} (hr : ρ[r]? = some a) : ItOk K ρ H (.rev r n) (Itv K a n) := by
  intro i ρ' H' μ' ex tx hm
  simp only [itemAt]
  cases e : listAt μ' r with
  | none => trivial
  | some us =>
    obtain ⟨vs, q, rr⟩ := listAt_ok hm (ex.get hr) e
    simp only [Option.bind_some]
    by_cases hi : i < n
    · rw [if_pos hi]
      cases eu : us[n - 1 - i]? with
      | none => trivial
      | some u =>
        obtain ⟨v, q2, r2⟩ := rr.get eu
        refine ⟨⟨hi, vs, v, q, q2⟩, fun x H'' y => ?_⟩
        obtain ⟨rfl, hx⟩ := y
        have := hx vs q
        rw [q2] at this
        cases this
        exact ⟨Stp.refl hm, r2⟩
    · rw [if_neg hi]
      exact Nat.le_of_not_lt hi
theorem rev_get {α : Type} {us : List α} {i : Nat} (h : i < us.length) : us.reverse[i]? = us[us.length - 1 - i]? := by
  rw [List.getElem?_reverse h]
theorem it_revT {K : PySem.W.Frag} {H : Hp} {ρ : List Addr} {a : Addr} {us : List U} {vs : List V} (hs : SqT K H a vs) (hr : RepVs K H ρ us vs) : ItOk K ρ H (.seq us.reverse) (RT.ItvT K a us.length) := by
  intro i ρ' H' μ' ex tx hm
  simp only [itemAt]
  have hs' := tx.seq hs
  have hr' := hr.mono tx ex
  by_cases hi : i < us.length
  · rw [rev_get hi]
    have hj : us.length - 1 - i < us.length := by omega
    rw [List.getElem?_eq_getElem hj]
    obtain ⟨v, q2, r2⟩ := hr'.get (List.getElem?_eq_getElem hj)
    refine ⟨⟨hi, vs, v, hs', q2⟩, fun x H'' y => ?_⟩
    obtain ⟨rfl, hx⟩ := y
    have := hx vs hs'
    rw [q2] at this
    cases this
    exact ⟨Stp.refl hm, r2⟩
  · rw [List.getElem?_eq_none (by simp; omega)]
    exact Nat.le_of_not_lt hi
section
variable {X : Cx} {W : WX}
def iRevL (a : FE) : FI := fun s μ => (a s μ).bind fun u μ1 => match u with
  | .tup us => .ok (.seq us.reverse) μ1
  | .ref r => match listAt μ1 r with
    | some us => .ok (.rev r us.length) μ1
    | none => .bad
  | _ => .bad
theorem ci_rev {tg e : Expr} {me : FE} {p pos : Pos} (he : CE X W e me) (hp : ∀ {te : TE}, PE X e te → PI X tg (.Call (.Name "reversed" p) [e] [] pos) (RT.iRevA X.K te)) : CI X W tg (.Call (.Name "reversed" p) [e] [] pos) (iRevL me) := by
  intro ρ μ s σ H R hs hm h
  refine ⟨_, hp pe_w, ?_⟩
  refine he ρ μ s σ H _ hs hm (h.bind fun u μ1 x H1 ρ1 t1 r1 h1 => ?_)
  split at h1
  · rename_i us
    cases r1 with
    | tup h2 r2 =>
      refine ⟨_, _, rfl, .inr ⟨h2, ?_⟩⟩
      have e := r2.length
      rw [← e]
      exact h1.ok (Stp.refl t1.mem) (it_revT h2 r2)
  · rename_i r
    cases r1 with
    | ref hr =>
      split at h1
      · rename_i us e
        obtain ⟨vs, q, rr⟩ := listAt_ok t1.mem hr e
        refine ⟨_, vs, rfl, .inl ⟨q, ?_⟩⟩
        rw [← rr.length]
        exact h1.ok (Stp.refl t1.mem) (it_rev hr)
      · exact h1.elim
  · exact h1.elim
/-! ### more that a suite may ask of the caught error -/
variable {i : Nat} {a : Addr}
theorem at_op {op : Operator} {e b : Expr} {f : U → U → Mem → Res U} {ma mb : FE} {pos : Pos} (ho : OpS X W (binaryOp op) f) (ha : CEat X W i a e ma) (hb : CEat X W i a b mb) : CEat X W i a (.BinOp e op b pos) (fOp f ma mb) := by
  intro ρ μ s σ H Q hi hs hm h
  refine ⟨_, pe_op op_w pe_w pe_w, ?_⟩
  refine ha ρ μ s σ H _ hi hs hm (h.bind fun u μ1 x H1 ρ1 t1 r1 h1 => ?_)
  refine hb ρ1 μ1 s σ H1 _ hi (t1.s hs) t1.mem (h1.bind fun w μ2 y H2 ρ2 t2 r2 h2 => ?_)
  exact ho ρ2 μ2 σ H2 u w x y Q t2.mem (t2.v r1) r2 h2
theorem at_callT {T : String} {x : Str} {e : Expr} {me : FE} {g : List U → Mem → Res U} {p pos : Pos} (hc : CallS X W (.type T) g) (he : CEat X W i a e me)
    (hp : ∀ {r : List V → Hp → VK → Prop} {t : TA}, CallR X (.type T) r → PA X [e] t → PE X (.Call (.Name x p) [e] [] pos) (tCB r t)) (hse : starEach (e :: []) X.env = (false, eval e X.env) :: starEach [] X.env := by rfl) : CEat X W i a (.Call (.Name x p) [e] [] pos) (fCall g (aCons me aNil)) := by
  intro ρ μ s σ H Q hi hs hm h
  refine ⟨_, hp call_w (pa_cons pe_w pa_nil hse), ?_⟩
  have h' : Post X W σ relV ρ H ((me s μ).bind fun u μ1 => g [u] μ1) Q := by
    have : fCall g (aCons me aNil) s μ = (me s μ).bind fun u μ1 => g [u] μ1 := by
      unfold fCall aCons aNil
      cases me s μ <;> rfl
    rw [← this]; exact h
  refine he ρ μ s σ H _ hi hs hm (h'.bind fun u μ1 x H1 ρ1 t1 r1 h1 => ?_)
  exact hc ρ1 μ1 σ H1 [u] [x] Q t1.mem (.cons r1 .nil) h1
end
end Dg
/-! Dz: zip of a tuple and a list. -/
namespace Dg
open PySem PySem.Spec PyProof.Rows L2 RZ
def ItzM (K : PySem.W.Frag) (ta la : Addr) : It where
  go := fun n H => ∃ (us ws : List V) (p q : V), (SqT K H ta us ∧ us[n]? = some p) ∧ SqL K H la ws ∧ ws[n]? = some q
  yld := fun n H v H' => ∃ c p q, (v = .ref c ∧ H c = none ∧ H' = upd H c (.tup [p, q])) ∧ (∀ us, SqT K H ta us → us[n]? = some p) ∧ (∀ ws, SqL K H la ws → ws[n]? = some q)
  stop := fun n H => ∃ us ws : List V, (SqT K H ta us ∧ SqL K H la ws) ∧ (us.length ≤ n ∨ ws.length ≤ n)
section
variable {P : Program} {w : World} {A : Around}
/-- draws of a tuple iterator from the place n on -/
theorem drT (hh : A.handled = none) {i a : Addr} (ne : a ≠ i) (its : Array Value) (n : Nat) : ∃ m Pv St, Draws P w A i [i, a] m Pv St ∧ n ≤ m ∧ (its.size ≤ n → n = m) ∧ (n < its.size → n < m) ∧ (∀ h : Heap, h.IsTupleIter i a n → h.IsTuple a its → St n h) ∧ (∀ x, Pv n x → its[n]? = some x) ∧ (∀ h : Heap, n < its.size → St (n + 1) h → h.IsTupleIter i a (n + 1)) := by
  by_cases lt : n < its.size
  · exact ⟨_, _, _, Draws.tuple hh i a ne its, by omega, by omega, fun _ => lt, fun h a b => ⟨a, b⟩, fun x e => e, fun h _ s => s.1⟩
  · refine ⟨n, fun _ _ => False, fun j h => j = n ∧ h.IsTupleIter i a j ∧ h.IsTuple a its, ⟨?_, ?_, ?_, ?_⟩, Nat.le_refl _, fun _ => rfl, fun h => absurd h lt, fun h a b => ⟨rfl, a, b⟩, fun x e => e.elim, fun h l => absurd l lt⟩
    · rintro j h ⟨_, ⟨o, ho, _⟩, _⟩; exact ⟨o, ho⟩
    · rintro j h h' ⟨e, s1, s2⟩ k; exact ⟨e, s1.at fun o q => k i (by simp) o q, s2.at fun o q => k a (by simp) o q⟩
    · rintro j s Q E hj ⟨e, _⟩; omega
    · rintro s Q E ⟨_, s1, s2⟩ hE
      exact wpAny_nextOf_tuple_end hh s1 s2 (by simp; omega) hE
/-- the same of a list -/
theorem drL (hh : A.handled = none) {i a : Addr} (ne : a ≠ i) (its : Array Value) (n : Nat) : ∃ m Pv St, Draws P w A i [i, a] m Pv St ∧ n ≤ m ∧ (its.size ≤ n → n = m) ∧ (n < its.size → n < m) ∧ (∀ h : Heap, h.IsListIter i a n → h.IsList a its → St n h) ∧ (∀ x, Pv n x → its[n]? = some x) ∧ (∀ h : Heap, n < its.size → St (n + 1) h → h.IsListIter i a (n + 1)) := by
  by_cases lt : n < its.size
  · exact ⟨_, _, _, Draws.list hh i a ne its, by omega, by omega, fun _ => lt, fun h a b => ⟨a, b⟩, fun x e => e, fun h _ s => s.1⟩
  · refine ⟨n, fun _ _ => False, fun j h => j = n ∧ h.IsListIter i a j ∧ h.IsList a its, ⟨?_, ?_, ?_, ?_⟩, Nat.le_refl _, fun _ => rfl, fun h => absurd h lt, fun h a b => ⟨rfl, a, b⟩, fun x e => e.elim, fun h l => absurd l lt⟩
    · rintro j h ⟨_, ⟨o, ho, _⟩, _⟩; exact ⟨o, ho⟩
    · rintro j h h' ⟨e, s1, s2⟩ k; exact ⟨e, s1.at fun o q => k i (by simp) o q, s2.at fun o q => k a (by simp) o q⟩
    · rintro j s Q E hj ⟨e, _⟩; omega
    · rintro s Q E ⟨_, s1, s2⟩ hE
      exact wpAny_nextOf_list_end hh s1 s2 (by simp; omega) hE
/-- where the zip stands -/
def ZmSt (z ti to i1 i2 a b : Addr) (n : Nat) (h : Heap) : Prop := (IsZip h z ti to .none ∧ IsTupOf2 h ti (.ref i1) (.ref i2)) ∧ (∃ p q, IsTupOf2 h to p q) ∧ h.IsTupleIter i1 a n ∧ h.IsListIter i2 b n
theorem turn_zipM {K : PySem.W.Frag} {es : List Expr} {kk : Nat} {tp : Pos} {a b z ti to i1 i2 : Addr} (S : ZipSep2 z ti to i1 i2 [i1, a] [i2, b]) (ne1 : a ≠ i1) (ne2 : b ≠ i2) :
    Turn P w K (.Tuple es kk tp) (ItzM K a b) [z, ti, to, i1, i2] z (ZmSt z ti to i1 i2 a b) where
  mem := List.mem_cons_self
  obj := by
    rintro n h ⟨⟨s1, s2⟩, ⟨p, q, s3⟩, ⟨o1, e1, _, d1⟩, ⟨o2, e2, _, d2⟩⟩ c hc
    simp only [List.mem_cons, List.not_mem_nil, or_false] at hc
    rcases hc with rfl | rfl | rfl | rfl | rfl
    · exact ⟨_, s1, fun v h => nomatch h⟩
    · exact ⟨_, s2, fun v h => nomatch h⟩
    · exact ⟨_, s3, fun v h => nomatch h⟩
    · exact ⟨o1, e1, fun v h => by rw [d1] at h; cases h⟩
    · exact ⟨o2, e2, fun v h => by rw [d2] at h; cases h⟩
  keep := by
    rintro n h h' ⟨⟨s1, s2⟩, ⟨p, q, s3⟩, s4, s5⟩ k
    exact ⟨⟨k z (by simp) _ s1, k ti (by simp) _ s2⟩, ⟨p, q, k to (by simp) _ s3⟩, s4.at fun o e => k i1 (by simp) o e, s5.at fun o e => k i2 (by simp) o e⟩
  item := by
    intro X hP hw hK hc n pins s σ H E I hf st hg
    subst hP hw hK
    obtain ⟨⟨s1, s2⟩, ⟨p0, q0, s3⟩, s4, s5⟩ := st
    obtain ⟨us, ws, p, q, ⟨qu, hp⟩, qw, hq⟩ := hg
    obtain ⟨its, rv, pt, _⟩ := I.tuple qu
    obtain ⟨itw, rw', pl, _⟩ := I.list qw
    obtain ⟨u, hu, ru⟩ := rv.get hp
    obtain ⟨w2, hw2, rw2⟩ := rw'.get hq
    have lu : n < its.toArray.size := by simpa using (List.getElem?_eq_some_iff.mp hu).1
    have lw : n < itw.toArray.size := by simpa using (List.getElem?_eq_some_iff.mp hw2).1
    have hh : X.A.in1.handled = none := I.ok.hd hc
    obtain ⟨m1, P1, S1, D1, _, _, l1, b1, c1, e1⟩ := drT (P := X.prog) (w := X.w) hh ne1 its.toArray n
    obtain ⟨m2, P2, S2, D2, _, _, l2, b2, c2, e2⟩ := drL (P := X.prog) (w := X.w) hh ne2 itw.toArray n
    have hzl : z < s.heap.objs.size := Heap.lt_size s1
    refine wpAny_pyNext_zipD2_item S D1 D2 s1 s2 s3 (b1 _ s4 pt) (b2 _ s5 pl.isList) (l1 lu) (l2 lw) fun x1 x2 h' tk y1 y2 z' to' k1 k2 hT hsz hk => ?_
    have ex1 : x1 = u := by
      have := c1 _ y1
      simp only [List.getElem?_toArray, hu] at this
      cases this; rfl
    have ex2 : x2 = w2 := by
      have := c2 _ y2
      simp only [List.getElem?_toArray, hw2] at this
      cases this; rfl
    subst ex1 ex2
    refine ⟨_, rfl, wpAny_letOwnedTupleGo_zip (s := { s with heap := h', toks := tk }) z' fun h2 z2 sb => ?_⟩
    have hT2 : IsTupOf2 h2 s.heap.objs.size x1 x2 := (sb.2 _ (Nat.ne_of_gt hzl)).trans hT
    have nw : ObjOk X.prog X.w (upd H s.heap.objs.size (.tup [p, q])) h2 s.heap.objs.size (.tup [p, q]) := ⟨by show 2 ≤ sizeLine; decide, [x1, x2], .cons ru (.cons rw2 .nil), ⟨_, hT2, rfl, _, rfl⟩⟩
    have kk : ∀ c o, c ∉ [z, ti, to, i1, i2] → s.heap.get? c = some o → h2.get? c = some o := fun c o nb e => by
      simp only [List.mem_cons, List.not_mem_nil, or_false, not_or] at nb
      exact (sb.2 _ nb.1).trans (hk c o nb.1 nb.2.2.1 nb.2.2.2.1 nb.2.2.2.2 e)
    have I1 : Inv X pins σ (upd H s.heap.objs.size (.tup [p, q])) { s with heap := h2, toks := tk } := I.turnedNew kk hf (Nat.le_refl _) nw
    refine ⟨.ref s.heap.objs.size, _, I1, rfl, ⟨_, p, q, ⟨rfl, I.hok.fresh (Nat.le_refl _), rfl⟩, fun l hl => by rw [I.tuple_inj hl qu]; exact hp, fun l hl => by rw [I.list_inj hl qw]; exact hq⟩, ?_, fun c hcm => ?_⟩
    · exact ⟨⟨z2, (sb.2 _ S.TIz).trans (hk _ _ S.TIz S.TITO S.TIi1 S.TIi2 s2)⟩, ⟨x1, x2, (sb.2 _ S.TOz).trans to'⟩, (e1 _ lu k1).at fun o e => (sb.2 _ S.zi1.symm).trans e, (e2 _ lw k2).at fun o e => (sb.2 _ S.zi2.symm).trans e⟩
    · have hlt : c < s.heap.objs.size := by
        simp only [List.mem_cons, List.not_mem_nil, or_false] at hcm
        rcases hcm with rfl | rfl | rfl | rfl | rfl
        · exact hzl
        · exact Heap.lt_size s2
        · exact Heap.lt_size s3
        · obtain ⟨_, g, _⟩ := s4; exact Heap.lt_size g
        · obtain ⟨_, g, _⟩ := s5; exact Heap.lt_size g
      rw [upd_ne (Nat.ne_of_lt hlt)]
      exact (hf c hcm).1
  done := by
    intro X hP hw hK hc n pins s σ H E I hf st hg
    subst hP hw hK
    obtain ⟨⟨s1, s2⟩, ⟨p0, q0, s3⟩, s4, s5⟩ := st
    obtain ⟨us, ws, ⟨qu, qw⟩, hend⟩ := hg
    obtain ⟨its, rv, pt, _⟩ := I.tuple qu
    obtain ⟨itw, rw', pl, _⟩ := I.list qw
    have hh : X.A.in1.handled = none := I.ok.hd hc
    obtain ⟨m1, P1, S1, D1, a1, f1, _, b1, _⟩ := drT (P := X.prog) (w := X.w) hh ne1 its.toArray n
    obtain ⟨m2, P2, S2, D2, a2, f2, _, b2, _⟩ := drL (P := X.prog) (w := X.w) hh ne2 itw.toArray n
    have n1 := rv.length
    have n2 := rw'.length
    have he : n = m1 ∨ n = m2 := hend.elim (fun h => .inl (f1 (by simp; omega))) (fun h => .inr (f2 (by simp; omega)))
    refine wpAny_pyNext_zipD2_end S D1 D2 s1 s2 s3 (b1 _ s4 pt) (b2 _ s5 pl.isList) a1 a2 he fun h' tk hk => ⟨rfl, I.turnedL (t' := tk) (ch := [z, ti, to, i1, i2]) (fun c o nb e => ?_) hf⟩
    simp only [List.mem_cons, List.not_mem_nil, or_false, not_or] at nb
    exact hk c o nb.1 nb.2.2.1 nb.2.2.2.1 nb.2.2.2.2 e
  self := fun A n s Q E st q => wpAny_pyIter_zip st.1.1 q
end
def iZipMA (K : PySem.W.Frag) (ta : TA) : TI := fun σ H R => ta σ H fun vs H1 => ∃ a b us ws, vs = [.ref a, .ref b] ∧ (SqT K H1 a us ∧ SqL K H1 b ws) ∧ R (ItzM K a b) H1
theorem pi_zipM {X : Cx} {e1 e2 : Expr} {ta : TA} {p pos tp : Pos} {es : List Expr} {kk : Nat} (gz : Gl X "zip") (mz : X.mg "zip" = none) (pa : PA X [e1, e2] ta)
    (st : starEach [e1, e2] X.env = (false, eval e1 X.env) :: starEach [e2] X.env := by rfl) (bk : (backTo pos (starEach [e2] X.env)).any (·.1) = false := by rfl) : PI X (.Tuple es kk tp) (.Call (.Name "zip" p) [e1, e2] [] pos) (iZipMA X.K ta) := by
  refine ⟨fun pins s σ H R I h => Call_ (ld_blt I gz mz PyProof.Rows.boot_zip (PyProof.Rows.callWith_type1 (thn (pa.run pos pins s σ H _ I h) ?_) st bk))⟩
  rintro us s1 ⟨vs, H1, I1, r1, a, b, ps, qs, rfl, ⟨hp, hq⟩, hR⟩
  cases r1 with
  | cons ra rr =>
    cases rr with
    | cons rb rz =>
      cases rz; cases ra; cases rb
      obtain ⟨its, rv, pt, _⟩ := I1.tuple hp
      obtain ⟨itw, rw', pl, _⟩ := I1.list hq
      have la : a < s1.heap.objs.size := by obtain ⟨o, e, _⟩ := id pt; exact Heap.lt_size e
      have lb : b < s1.heap.objs.size := pl.lt
      refine zip_begins2 (begins_tuple a its.toArray) (begins_list b itw.toArray) pt pl.isList fun h' s1' s2' s3' g1 g2 hz hk => wpAny_pyIter_zip s1' ?_
      have I2 : Inv X pins σ H1 { s1 with heap := h' } := I1.kept (t' := s1.toks) hk
      have fresh : ∀ c, c ∈ [s1.heap.objs.size + 4, s1.heap.objs.size + 2, s1.heap.objs.size + 3, s1.heap.objs.size, s1.heap.objs.size + 1] → FpOk X pins H1 c := fun c hc => by
        have le : s1.heap.objs.size ≤ c := by
          simp only [List.mem_cons, List.not_mem_nil, or_false] at hc
          rcases hc with h | h | h | h | h <;> (rw [h]; first | exact Nat.le_refl _ | exact Nat.le_add_right _ _)
        exact I1.fpOk le (I1.hok.fresh le)
      exact ⟨_, _, _, _, H1, rfl, I2, turn_zipM (zip_sep2 (fp1 := [a]) (fp2 := [b]) (fun c hc => by rw [List.mem_singleton.mp hc]; exact la) (fun c hc => by rw [List.mem_singleton.mp hc]; exact lb)) (Nat.ne_of_lt la) (Nat.ne_of_lt (Nat.lt_succ_of_lt lb)), ⟨⟨s1', s2'⟩, ⟨_, _, s3'⟩, ⟨_, g1, rfl, rfl⟩, ⟨_, g2, rfl, rfl⟩⟩, fresh, hR⟩
theorem it_zipM {K : PySem.W.Frag} {H : Hp} {ρ : List Addr} {a b : Addr} {us : List U} {vs : List V} {r : Nat} (hs : SqT K H a vs) (hr : RepVs K H ρ us vs) (h2 : ρ[r]? = some b) : ItOk K ρ H (.zipM us r) (ItzM K a b) := by
  intro i ρ' H' μ' ex tx hm
  simp only [itemAt]
  have hs' := tx.seq hs
  have hr' := hr.mono tx ex
  cases e2 : listAt μ' r with
  | none => trivial
  | some ws =>
    obtain ⟨xs, q2, rr2⟩ := listAt_ok hm (ex.get h2) e2
    simp only
    cases eu : us[i]? with
    | none =>
      refine ⟨vs, xs, ⟨hs', q2⟩, .inl ?_⟩
      rw [← hr'.length]
      exact List.getElem?_eq_none_iff.mp eu
    | some u =>
      cases ew : ws[i]? with
      | none =>
        refine ⟨vs, xs, ⟨hs', q2⟩, .inr ?_⟩
        rw [← rr2.length]
        exact List.getElem?_eq_none_iff.mp ew
      | some w =>
        obtain ⟨v, q3, r3⟩ := hr'.get eu
        obtain ⟨v2, q4, r4⟩ := rr2.get ew
        refine ⟨⟨vs, xs, v, v2, ⟨hs', q3⟩, q2, q4⟩, fun x H'' y => ?_⟩
        obtain ⟨c, x1, y1, ⟨rfl, nT, rfl⟩, f1, f2⟩ := y
        have g1 := f1 vs hs'
        rw [q3] at g1
        cases g1
        have g2 := f2 xs q2
        rw [q4] at g2
        cases g2
        exact ⟨Stp.temp hm nT, newT nT (.cons r3 (.one r4))⟩
section
variable {X : Cx} {W : WX}
/-- zip of a tuple and a list -/
def iZipM (a b : FE) : FI := fun s μ => (a s μ).bind fun u μ1 => (b s μ1).bind fun w μ2 => match u, w with
  | .tup us, .ref r => match listAt μ2 r with
    | some _ => .ok (.zipM us r) μ2
    | none => .bad
  | _, _ => .bad
theorem ci_zipM {tg a b : Expr} {ma mb : FE} {p pos : Pos} (ha : CE X W a ma) (hb : CE X W b mb)
    (hp : ∀ {ta : TA}, PA X [a, b] ta → PI X tg (.Call (.Name "zip" p) [a, b] [] pos) (iZipMA X.K ta)) (hs1 : starEach [a, b] X.env = (false, eval a X.env) :: starEach [b] X.env := by rfl) (hs2 : starEach [b] X.env = (false, eval b X.env) :: starEach [] X.env := by rfl) :
    CI X W tg (.Call (.Name "zip" p) [a, b] [] pos) (iZipM ma mb) := by
  intro ρ μ s σ H R hs hm h
  refine ⟨_, hp (pa_cons pe_w (pa_cons pe_w pa_nil hs2) hs1), ?_⟩
  refine ha ρ μ s σ H _ hs hm (h.bind fun u μ1 x H1 ρ1 t1 r1 h1 => ?_)
  refine hb ρ1 μ1 s σ H1 _ (t1.s hs) t1.mem (h1.bind fun w μ2 y H2 ρ2 t2 r2 h2 => ?_)
  have r1' := t2.v r1
  split at h2
  · cases r1' with
    | tup a1 a2 => cases r2 with
      | ref b1 =>
        split at h2
        · rename_i e2
          obtain ⟨xs, q2, _⟩ := listAt_ok t2.mem b1 e2
          exact ⟨_, _, _, _, rfl, ⟨a1, q2⟩, h2.ok (Stp.refl t2.mem) (it_zipM a1 a2 b1)⟩
        · exact h2.elim
  · exact h2.elim
end
end Dg
/-! Dt: try with several except clauses, with or without names. -/
namespace Dg
open PySem PySem.Spec PyProof.Rows L2
abbrev Hd3 := Value × Option Nat × (Addr → Value → Option Addr → TS)
/-- what goes on behind a suite that held a name -/
def behind (D : Ends) (i : Nat) : Ends := { nx := fun s H => D.nx (s.set i none) H, rt := D.rt, bk := fun s H => D.bk (s.set i none) H, ct := fun s H => D.ct (s.set i none) H }
def wMix (K : PySem.W.Frag) (W : WX) (D : Ends) : List Hd3 → WX
  | [] => W
  | (c, none, ts) :: l => fun t d σ H => ∃ y, PySem.W.exmOne K t c = some y ∧ (y = true → ∀ p, H p = none → ts p t d D σ H) ∧ (y = false → wMix K W D l t d σ H)
  | (c, some i, ts) :: l => fun t d σ H => ∃ y, PySem.W.exmOne K t c = some y ∧ (y = true → ∀ p, H p = none → ts p t d (behind D i) (σ.set i (some (.ref p))) H) ∧ (y = false → wMix K W D l t d σ H)
def SuOk (X : Cx) (su : List Stmt) (ts : Addr → Value → Option Addr → TS) : Prop := ∀ (p : Addr) (oe : Obj) (t : Value) (d : Option Addr) (pn : List (Addr × Obj)), Zc t d oe → (∃ vs, oe.data = .fields vs) → PSs (X.suite p ((p, oe) :: pn)) su (ts p t d)
inductive HdsMix (X : Cx) : List ExceptHandler → List Hd3 → Prop
  | nil : HdsMix X [] []
  | bare {x : Str} {c : Value} {ts : Addr → Value → Option Addr → TS} {b : Stmt} {su : List Stmt} {np q : Pos} {hds : List ExceptHandler} {l : List Hd3} : Names X x c → SuOk X (b :: su) ts → HdsMix X hds l → HdsMix X (.ExceptHandler (some (.Name x np)) none (b :: su) q :: hds) ((c, none, ts) :: l)
  | named {x n : Str} {i : Nat} {c : Value} {ts : Addr → Value → Option Addr → TS} {b : Stmt} {su : List Stmt} {np q : Pos} {hds : List ExceptHandler} {l : List Hd3} : Names X x c → X.N[i]? = some n → X.env.kindOf n = some .local → SuOk X (b :: su) ts → HdsMix X hds l → HdsMix X (.ExceptHandler (some (.Name x np)) (some n) (b :: su) q :: hds) ((c, some i, ts) :: l)
theorem ps_try_mix {X : Cx} {body : List Stmt} {h0 : ExceptHandler} {hds : List ExceptHandler} {l : List Hd3} {pos : Pos} {tb : WX → TS} {W : WX} (st : X.stack = X.env :: X.outer) (fr : X.env.frame = some X.env.locals) (nd : X.N.Nodup) (tk : Takes X W)
    (hb : ∀ (W' : WX) (pn : List (Addr × Obj)) (xe : Value → Shared → Prop), Takes (X.tr pn xe) W' → PassesOwn (model X.prog X.w) X.A X.env xe → PSs (X.tr pn xe) body (tb W')) (ok3 : HdsMix X (h0 :: hds) l) : PS X (.Try body (h0 :: hds) [] [] pos) (fun D σ H => tb (wMix X.K W D l) D σ H) := by
  refine ⟨fun pins s σ H D I h => ?_⟩
  have io := I.ok
  have hA : X.A.frames = some (X.env :: X.outer) := io.frames.trans (by rw [st])
  refine wpAny_Try_except (wpAny_mono ((hb (wMix X.K W D l) (X.pn ++ pins) (fun e s₁ => wpAny (model X.prog X.w) X.A (noteFrame e X.env) (fun _ s₂ => wpAny (model X.prog X.w) X.A (setFlight e none) (fun _ s₃ => wpAny (model X.prog X.w) X.A (handleBy e X.env (h0 :: hds)) (SP X pins D) X.xe s₃) X.xe s₂) X.xe s₁) ?_ PassesOwn.looking).run [] s σ H D (I.toTry _) h) ?_ fun e s1 he => he)
  · rintro u s' ⟨a, B, sI, pins', σ', H', cls, d, rfl, J', nb, up, sky, na, os, ag, w⟩
    have J : Inv X pins σ' H' sI := J'.ofTry io
    have sk : Sky B (X.env :: X.outer) a (Zc cls d) X.env.locals s'.heap := by rw [← st]; exact sky
    show wpAny (model X.prog X.w) X.A (noteFrame (.ref a) X.env) _ _ _
    refine Sky.land Zc.steady hA fr sk fun h3 fl up3 => ?_
    have J3 : Inv X pins σ' H' { s' with heap := h3 } := J.landed nb fl.1 (up.trans up3) os ag
    obtain ⟨o3, v3, g3, z3, d3⟩ := fl.there
    have out : a ∉ frs (X.env :: X.outer) := fun hm => by obtain ⟨_, o', e', hn⟩ := fl.2.2.1.mem hm; rw [g3] at e'; cases e'; exact hn _ d3
    have nL : a ≠ X.env.locals := fun z => out (List.mem_filterMap.mpr ⟨X.env, List.mem_cons_self, by rw [fr, z]⟩)
    have nF : a ∉ X.fs := fun hm => by obtain ⟨e, he, q⟩ := List.mem_filterMap.mp hm; exact out (List.mem_filterMap.mpr ⟨e, List.mem_cons_of_mem _ he, q⟩)
    have S3 := J3.suite g3 d3 na nL nF
    have LT : PySem.W.Looks (model X.prog X.w) h3 (typeOf (.ref a)) cls := fun A Q E s k q => wpAny_typeOf_ref (k _ _ g3) (by rw [z3.1]; exact q)
    have look : ∀ {x : Str} {c : Value} {np : Pos} {Q E : Value → Shared → Prop}, Names X x c → Q c { s' with heap := h3 } → wpAny (model X.prog X.w) (X.A.mark (some (.ref a))) (eval (.Name x np) X.env) Q E { s' with heap := h3 } := fun {x c np Q E} hc q => by
      obtain ⟨hg, db, hm | ⟨hm, hv, nn⟩⟩ := hc
      · exact ld_glob (X := X.suite a ((a, o3) :: (X.pn ++ pins))) S3 hg hm q db
      · exact ld_blt (X := X.suite a ((a, o3) :: (X.pn ++ pins))) S3 hg hm hv q nn db
    have go : ∀ {hd : List ExceptHandler} {l' : List Hd3}, HdsMix X hd l' → wMix X.K W D l' cls d σ' H' → wpAny (model X.prog X.w) X.A (handleBy (.ref a) X.env hd) (SP X pins D) X.xe { s' with heap := h3 } := by
      intro hd l' hk
      induction hk with
      | nil =>
        intro w
        obtain ⟨_, _, _, oe, vs, T, oT, t2, he, hz, hd1, hT, _⟩ := id fl
        refine wpAny_handleBy_nil ?_
        unfold PySem.passOn
        refine wpAny_bind (wpAny_field he hd1 hT ?_)
        rw [if_neg (show ¬ ((Value.ref T == Value.none) = true) by simp)]
        have fin : wpAny (model X.prog X.w) X.A (setFlight (.ref a) X.env.frame) (fun _ s4 => wpAny (model X.prog X.w) X.A (throw (.ref a) : Sem Flow) (SP X pins D) X.xe s4) X.xe { s' with heap := h3 } := by
          rw [fr]; refine HandSPX.setFlight_upZ fl fun h4 hh4 up4 => wpAny_throw (tk _ _ ?_)
          exact ⟨a, B, sI, pins, σ', H', cls, d, rfl, J, nb, (up.trans up3).trans up4, .inr (.inr (by rw [st]; exact hh4)), na, os, ag, w⟩
        first | exact wpAny_bind (wpAny_pure (wpAny_bind fin)) | exact wpAny_bind fin
      | @bare x c ts b su np q hd2 l2 hc hsu r ih =>
        rintro ⟨y, hy, yes, no⟩
        refine wpAny_handleBy_cons (codeAny_handlers_test ?_) (by intro z; cases z)
        refine look hc ((PySem.W.exm_one (M := model X.prog X.w) J3.kIn LT hy).here ?_)
        cases y with
        | false => exact ih (no rfl)
        | true =>
          refine codeAny_handlers_suite (HandSPX.lands_againZ fl fun h4 fl4 up4 => ?_)
          have J4 : Inv X pins σ' H' { s' with heap := h4 } := J.landed nb fl4.1 ((up.trans up3).trans up4) os ag
          obtain ⟨o4, v4, g4, z4, d4⟩ := fl4.there
          refine wpAny_mono ((hsu a o4 cls d (X.pn ++ pins) z4 ⟨_, d4⟩).run [] _ _ H' _ (J4.suite g4 d4 na nL nF) (yes rfl a na)) (fun f s6 hsp => ?_) (fun _ _ z => False.elim z)
          cases f with
          | ret u => obtain ⟨v6, σ6, H6, S6, r6, q6⟩ := hsp; exact ⟨_, _, _, S6.unsuite io, r6, q6⟩
          | _ => obtain ⟨σ6, H6, S6, q6⟩ := hsp; exact ⟨_, _, S6.unsuite io, q6⟩
      | @named x n i c ts b su np q hd2 l2 hc hi hl hsu r ih =>
        rintro ⟨y, hy, yes, no⟩
        refine wpAny_handleBy_cons (codeAny_handlers_test ?_) (by intro z; cases z)
        refine look hc ((PySem.W.exm_one (M := model X.prog X.w) J3.kIn LT hy).here ?_)
        cases y with
        | false => exact ih (no rfl)
        | true =>
          refine codeAny_handlers_suite_as (HandSPX.lands_againZ fl fun h4 fl4 up4 => ?_)
          have J4 : Inv X pins σ' H' { s' with heap := h4 } := J.landed nb fl4.1 ((up.trans up3).trans up4) os ag
          obtain ⟨o4, v4, g4, z4, d4⟩ := fl4.there
          refine store_ok (X := X.suite a ((a, o4) :: (X.pn ++ pins))) (v := .ref a) (J4.suite g4 d4 na nL nF) nd hi (.inl hl) rfl (fun s5 S5 => ?_) (.inr hl)
          refine wpAny_mono ((hsu a o4 cls d (X.pn ++ pins) z4 ⟨_, d4⟩).run [] s5 _ H' _ S5 (yes rfl a na)) (fun f s6 hsp => ?_) (fun _ _ z => False.elim z)
          have gone : ∀ {σ6 : L2.St} {H6 : Hp} {Q : Shared → Prop}, Inv (X.suite a ((a, o4) :: (X.pn ++ pins))) [] σ6 H6 s6 → (∀ s7, Inv X pins (σ6.set i none) H6 s7 → Q s7) → wpAny (model X.prog X.w) X.A (do bindName X.env n .none; unbindBehindTheSuite X.env n q) (fun _ s7 => Q s7) X.xe s6 := fun S6 hq => gone_ok (S6.unsuite io) nd hi hl hq
          cases f with
          | ret u => obtain ⟨v6, σ6, H6, S6, r6, q6⟩ := hsp; exact gone S6 fun s7 J7 => ⟨_, _, _, J7, r6, q6⟩
          | _ => obtain ⟨σ6, H6, S6, q6⟩ := hsp; exact gone S6 fun s7 J7 => ⟨_, _, J7, q6⟩
    exact go ok3 w
  · intro f s1 hsp
    cases f with
    | next => obtain ⟨σ', H', J', q⟩ := hsp; exact wpAny_execs_nil ⟨σ', H', J'.ofTry io, q⟩
    | ret u => obtain ⟨v, σ', H', J', r, q⟩ := hsp; exact ⟨v, σ', H', J'.ofTry io, r, q⟩
    | _ => obtain ⟨σ', H', J', q⟩ := hsp; exact ⟨σ', H', J'.ofTry io, q⟩
/-! ### the mirror -/
abbrev Cl3 := List (Str × Bool) × Option Nat × (Str → FS)
def sHds : List Cl3 → Str → FS
  | [], c, s, μ => .ex c s μ
  | (tab, oi, ms) :: l, c, s, μ => match tab.lookup c with
    | none => .bad
    | some false => sHds l c s μ
    | some true => match oi with
      | none => ms c s μ
      | some i => if i < s.length then hideO i (ms c (s.set i none) μ) else .bad
def sTryM (l : List Cl3) (b : FS) : FS := fun s μ => match b s μ with
  | .ex c s1 μ1 => sHds l c s1 μ1
  | o => o
section
variable {X : Cx} {W : WX} {k : Nat}
def tsM (X : Cx) (su : List Stmt) (p : Addr) (t : Value) (d : Option Addr) : TS := fun D σ H => ∀ oe pn, Zc t d oe → (∃ vs, oe.data = .fields vs) → WSs (X.suite p ((p, oe) :: pn)) su D σ H
theorem tsM_ok {su : List Stmt} : SuOk X su (tsM X su) := fun p oe t d pn hz hf => ⟨fun pins s σ H D I h => pss_w.run pins s σ H D I (h oe pn hz hf)⟩
inductive MOk (X : Cx) (W : WX) : List ExceptHandler → List Cl3 → List Hd3 → Prop
  | nil : MOk X W [] [] []
  | bare {x : Str} {C : Addr} {b : Stmt} {su : List Stmt} {np q : Pos} {tab : List (Str × Bool)} {ms : FS} {hds : List ExceptHandler} {l : List Cl3} {L : List Hd3} : X.mg x = some (.ref C) → Gl X x → (x == ("__debug__" : Str)) = false → (∀ q ∈ tab, Exm X.K X.mg q.1 x q.2) →
      (∀ (a : Addr) (oe : Obj) (cls : Value) (d : Option Addr) (pn : List (Addr × Obj)), Zc cls d oe → (∃ vs, oe.data = .fields vs) → CSs (X.suite a ((a, oe) :: pn)) W (b :: su) ms) → MOk X W hds l L →
      MOk X W (.ExceptHandler (some (.Name x np)) none (b :: su) q :: hds) ((tab, none, fun _ => ms) :: l) ((.ref C, none, tsM X (b :: su)) :: L)
  | named {x n : Str} {i : Nat} {C : Addr} {b : Stmt} {su : List Stmt} {np q : Pos} {tab : List (Str × Bool)} {ms : Str → FS} {hds : List ExceptHandler} {l : List Cl3} {L : List Hd3} : X.mg x = some (.ref C) → Gl X x → (x == ("__debug__" : Str)) = false → X.N[i]? = some n → X.env.kindOf n = some .local → (∀ q ∈ tab, Exm X.K X.mg q.1 x q.2) →
      (∀ (c : Str) (C a : Addr) (oe : Obj) (pn : List (Addr × Obj)), (c, true) ∈ tab → X.mg c = some (.ref C) → Zc (.ref C) none oe → (∃ vs, oe.data = .fields vs) → CSsat (X.suite a ((a, oe) :: pn)) W i a (b :: su) (ms c)) → MOk X W hds l L →
      MOk X W (.ExceptHandler (some (.Name x np)) (some n) (b :: su) q :: hds) ((tab, some i, ms) :: l) ((.ref C, some i, tsM X (b :: su)) :: L)
theorem MOk.hds {hds : List ExceptHandler} {l : List Cl3} {L : List Hd3} (m : MOk X W hds l L) : HdsMix X hds L := by
  induction m with
  | nil => exact .nil
  | bare h1 h2 h3 h4 h5 r ih => exact .bare ⟨h2, h3, .inl h1⟩ tsM_ok ih
  | named h1 h2 h3 h4 h5 h6 h7 r ih => exact .named ⟨h2, h3, .inl h1⟩ h4 h5 tsM_ok ih
theorem MOk.run {D : Ends} {cls : Value} {ρ : List Addr} {H : Hp} {σ : L2.St} {c : Str} {s : Slots} {μ : Mem} (hs : RepS X.K H ρ s σ) (hm : RepM X.K H ρ μ) (em : X.mg c = some cls) {hds : List ExceptHandler} {l : List Cl3} {L : List Hd3} (m : MOk X W hds l L)
    (h : PostS X W ρ H (sHds l c s μ) D) : wMix X.K W D L cls none σ H := by
  have pick : ∀ {x : Str} {C : Addr} {tab : List (Str × Bool)} {y : Bool}, X.mg x = some (.ref C) → (∀ q ∈ tab, Exm X.K X.mg q.1 x q.2) → tab.lookup c = some y → PySem.W.exmOne X.K cls (.ref C) = some y ∧ ∃ A, cls = .ref A := fun {x C tab y} h1 ht hl => by
    obtain ⟨Cx, Cy, e1, e2, e3⟩ := ht (c, y) (lookup_mem hl)
    simp only at e1 e2 e3
    rw [em] at e1
    cases e1
    rw [h1] at e2
    cases e2
    exact ⟨e3, Cx, rfl⟩
  induction m with
  | nil => exact h cls σ H ρ (Stp.refl hm) hs em
  | @bare x C b su np q tab ms hds l L h1 h2 h3 h4 h5 r ih =>
    unfold sHds at h
    cases hl : tab.lookup c with
    | none => rw [hl] at h; exact h.elim
    | some y =>
      rw [hl] at h
      obtain ⟨e, _⟩ := pick h1 h4 hl
      refine ⟨y, e, ?_, ?_⟩
      · rintro rfl a ha oe pn hz hf
        exact h5 a oe cls none pn hz hf ρ μ s σ H D hs hm h
      · rintro rfl
        exact ih h
  | @named x n i C b su np q tab ms hds l L h1 h2 h3 h4 h5 h6 h7 r ih =>
    unfold sHds at h
    cases hl : tab.lookup c with
    | none => rw [hl] at h; exact h.elim
    | some y =>
      rw [hl] at h
      obtain ⟨e, A, eA⟩ := pick h1 h6 hl
      subst eA
      refine ⟨y, e, ?_, ?_⟩
      · rintro rfl a ha oe pn hz hf
        simp only at h
        split at h
        · rename_i hlt
          exact cs_tryG_end (h7 c A a oe pn (lookup_mem hl) em hz hf) hlt hs (Stp.refl hm) h
        · exact h.elim
      · rintro rfl
        exact ih h
theorem cs_tryM {body : List Stmt} {h0 : ExceptHandler} {hds : List ExceptHandler} {pos : Pos} {mb : FS} {l : List Cl3} (G : Good X W k) (hN : X.N.Nodup)
    (hb : ∀ (W' : WX) (pn : List (Addr × Obj)) (xe : Value → Shared → Prop), Good (X.tr pn xe) W' k → CSs (X.tr pn xe) W' body mb) (ok : ∃ L, MOk X W (h0 :: hds) l L)
    (hst : X.stack = X.env :: X.outer := by rfl) (hfr : X.env.frame = some X.env.locals := by rfl) : CS X W (.Try body (h0 :: hds) [] [] pos) (sTryM l mb) := by
  obtain ⟨L, m⟩ := ok
  intro ρ μ s σ H D hs hm h
  refine ⟨_, ps_try_mix hst hfr hN (W := W) (l := L) (tb := fun W' D σ H => ∀ pn xe, Takes (X.tr pn xe) W' → PassesOwn (model X.prog X.w) X.A X.env xe → WSs (X.tr pn xe) body D σ H) G.tk (fun W' pn xe tk' po => ⟨fun pins s σ H D I h => pss_w.run pins s σ H D I (h pn xe tk' po)⟩) m.hds, ?_⟩
  intro pn xe tk' po
  refine hb _ pn xe (G.tr tk' po) ρ μ s σ H D hs hm ?_
  unfold sTryM at h
  cases eb : mb s μ with
  | ex c' s1 m1 =>
    rw [eb] at h
    intro cls σ' H' ρ' t r em
    exact MOk.run (X := X) r t.mem em m (PostS.from (X := X) t h)
  | _ => rw [eb] at h; exact h
theorem mk_nil : ∃ L, MOk X W [] [] L := ⟨_, .nil⟩
theorem mk_bare {x : Str} {b : Stmt} {su : List Stmt} {np q : Pos} {tab : List (Str × Bool)} {ms : FS} {hds : List ExceptHandler} {l : List Cl3} (hx : Exn X.K X.mg x) (hg : Gl X x) (ht : ∀ q ∈ tab, Exm X.K X.mg q.1 x q.2)
    (hsu : ∀ (a : Addr) (oe : Obj) (cls : Value) (d : Option Addr) (pn : List (Addr × Obj)), Zc cls d oe → (∃ vs, oe.data = .fields vs) → CSs (X.suite a ((a, oe) :: pn)) W (b :: su) ms) (r : ∃ L, MOk X W hds l L) (hdb : (x == ("__debug__" : Str)) = false := by decide) :
    ∃ L, MOk X W (.ExceptHandler (some (.Name x np)) none (b :: su) q :: hds) ((tab, none, fun _ => ms) :: l) L := by
  obtain ⟨C, h1, _⟩ := hx
  obtain ⟨L, m⟩ := r
  exact ⟨_, .bare h1 hg hdb ht hsu m⟩
theorem mk_named {x n : Str} {i : Nat} {b : Stmt} {su : List Stmt} {np q : Pos} {tab : List (Str × Bool)} {ms : Str → FS} {hds : List ExceptHandler} {l : List Cl3} (hi : X.N[i]? = some n) (hl : X.env.kindOf n = some .local) (hx : Exn X.K X.mg x) (hg : Gl X x) (ht : ∀ q ∈ tab, Exm X.K X.mg q.1 x q.2)
    (hsu : ∀ (c : Str) (C a : Addr) (oe : Obj) (pn : List (Addr × Obj)), (c, true) ∈ tab → X.mg c = some (.ref C) → Zc (.ref C) none oe → (∃ vs, oe.data = .fields vs) → CSsat (X.suite a ((a, oe) :: pn)) W i a (b :: su) (ms c)) (r : ∃ L, MOk X W hds l L) (hdb : (x == ("__debug__" : Str)) = false := by decide) :
    ∃ L, MOk X W (.ExceptHandler (some (.Name x np)) (some n) (b :: su) q :: hds) ((tab, some i, ms) :: l) L := by
  obtain ⟨C, h1, _⟩ := hx
  obtain ⟨L, m⟩ := r
  exact ⟨_, .named h1 hg hdb hi hl ht hsu m⟩
end
end Dg
/-! Du: dict comprehensions whose keys are ints or texts; a subscript in a suite that asks the caught error. -/
namespace Dg
open PySem PySem.Spec PyProof.Rows L2
section
variable {X : Cx} {W : WX} {i : Nat} {a : Addr}
def ixQ (u w : U) (μ : Mem) : Res U := match dctU μ u with
  | none => ixU u w μ
  | some _ => .bad
theorem at_sub {e b : Expr} {ma mb : FE} {pos : Pos} (ha : CEat X W i a e ma) (hb : CEat X W i a b mb) (hp : PlainIx b := by exact fun _ _ => rfl) : CEat X W i a (.Subscript e b pos) (fOp ixQ ma mb) := by
  intro ρ μ s σ H Q hi hs hm h
  refine ⟨_, pe_ix ix_w pe_w pe_w hp, ?_⟩
  refine ha ρ μ s σ H _ hi hs hm (h.bind fun u μ1 x H1 ρ1 t1 r1 h1 => ?_)
  refine hb ρ1 μ1 s σ H1 _ hi (t1.s hs) t1.mem (h1.bind fun w μ2 y H2 ρ2 t2 r2 h2 => ?_)
  unfold ixQ at h2
  cases hd : dctU μ2 u with
  | some k => rw [hd] at h2; exact h2.elim
  | none => rw [hd] at h2; exact ix_ok t2.mem (t2.v r1) r2 hd h2
end
section
variable {X : Cx} {W W0 : WX} {k : Nat}
def dkGo (j : IterU) (own : List Nat) (g : Tgt) (t : FT) (kk e : FE) (s : Slots) (D : Nat) : Nat → Nat → Mem → Res U
  | 0, _, _ => .bad
  | f + 1, i, μ => match itemAt j i μ with
    | none => .bad
    | some none => .ok (.ref D) μ
    | some (some u) => match setT g u (wipeU s own) with
      | none => .bad
      | some s1 => match t s1 μ with
        | .ok true μ3 => match kk s1 μ3 with
          | .ok kv μ4 => match e s1 μ4 with
            | .ok v μ5 => match μ5[D]? with
              | some (.dct acc) => match keyU kv with
                | some ky => if acc.length < lim then dkGo j own g t kk e s D f (i + 1) (μ5.set D (.dct (putU acc ky v))) else .bad
                | none => .bad
              | _ => .bad
            | _ => .bad
          | _ => .bad
        | .ok false μ3 => dkGo j own g t kk e s D f (i + 1) μ3
        | _ => .bad
def fDcK (it : FI) (own : List Nat) (g : Tgt) (t : FT) (kk e : FE) : FE := fun s μ => (it s μ).bind fun j μ1 => dkGo j own g t kk e s μ1.length fuelF 0 (μ1 ++ [.dct []])
theorem dcK_reads {tg iter : Expr} {ifs : List Expr} {kx vx : Expr} {scope : Scope} {own : List Nat} {mi : FI} {g : Tgt} {t : FT} {kk e : FE} (hi : CI X W tg iter mi)
    (hg : ∀ s H0 C cl fp, CG (X.blk s H0 scope (compEnvC scope cl C X.env) fp) tg g) (ht : ∀ s H0 C cl fp, CTs (X.blk s H0 scope (compEnvC scope cl C X.env) fp) W0 ifs t)
    (hk : ∀ s H0 C cl fp, CE (X.blk s H0 scope (compEnvC scope cl C X.env) fp) W0 kx kk) (he : ∀ s H0 C cl fp, CE (X.blk s H0 scope (compEnvC scope cl C X.env) fp) W0 vx e) (hsub : subT g own = true)
    {ρ : List Addr} {μ : Mem} {s : Slots} {σ : L2.St} {H : Hp} {Q : VK} (hs : RepS X.K H ρ s σ) (hm : RepM X.K H ρ μ) (h : Post X W σ relV ρ H (fDcK mi own g t kk e s μ) Q) :
    tDc (WI X tg iter) (WGb X scope tg) (WTb X scope ifs) (WEb X scope kx) (WEb X scope vx) own σ H Q := by
  refine hi ρ μ s σ H _ hs hm (h.bind fun j μ1 J H1 ρ1 t1 r1 h1 => ?_)
  intro D hD
  have hJ : ItOk X.K ρ1 H1 j J := r1
  have tD : Stp X.K ρ1 H1 (ρ1 ++ [D]) (upd H1 D (.dK [])) (μ1 ++ [.dct []]) := newD t1.mem hD (RepKV.nil (K := X.K) (H := H1) (ρ := ρ1))
  refine ⟨fun i m H' => ∃ ρ' μ', Stp X.K (ρ1 ++ [D]) (upd H1 D (.dK [])) ρ' H' μ' ∧ Post X W σ relV ρ' H' (dkGo j own g t kk e s μ1.length m i μ') Q, ⟨fuelF, ρ1 ++ [D], μ1 ++ [.dct []], Stp.refl tD.mem, h1.into tD⟩, ?_⟩
  intro i m H' ⟨ρ', μ', t', h'⟩
  have hDr : ρ'[μ1.length]? = some D := t'.ext.get (by rw [← t1.mem.len, List.getElem?_append_right (Nat.le_refl _)]; simp)
  cases m with
  | zero => exact h'.elim
  | succ m =>
    have q := hJ i ρ' H' μ' (tD.ext.trans t'.ext) (tD.tx.trans t'.tx) t'.mem
    unfold dkGo at h'
    cases e0 : itemAt j i μ' with
    | none => rw [e0] at h'; exact h'.elim
    | some o =>
      rw [e0] at h' q
      cases o with
      | none => exact .inl ⟨q, h'.ok (Stp.refl t'.mem) (.ref hDr)⟩
      | some u =>
        refine .inr ⟨q.1, fun H2 => ∃ ρ2 μ2, Stp X.K (ρ1 ++ [D]) (upd H1 D (.dK [])) ρ2 H2 μ2 ∧ Post X W σ relV ρ2 H2 (dkGo j own g t kk e s μ1.length m (i + 1) μ2) Q, fun H2 z => ⟨m, Nat.lt_succ_self m, z⟩, fun x H'' y => ?_⟩
        obtain ⟨t2, ru⟩ := q.2 x H'' y
        simp only at h'
        have hsw : RepS X.K H'' ρ' (wipeU s own) (wipe σ own) := (t2.s (t'.s (tD.s (t1.s hs)))).wipe own
        cases es : setT g u (wipeU s own) with
        | none => rw [es] at h'; exact h'.elim
        | some s1 =>
          rw [es] at h'
          simp only at h'
          intro s0 H0 C cl fp
          refine hg s0 H0 C cl fp ρ' (wipeU s own) (wipe σ own) H'' u x s1 _ hsw ru es fun σ3 hs3 hw => ⟨?_, ?_⟩
          · have := hw own (subT_ok hsub)
            rw [this]
            exact wipe_wipe fun i hi => hi
          · intro s0' H0' C' cl' fp'
            refine ht s0' H0' C' cl' fp' ρ' μ' s1 σ3 H'' _ hs3 t2.mem ?_
            cases et : t s1 μ' with
            | ex c m2 => rw [et] at h'; exact h'.elim
            | bad => rw [et] at h'; exact h'.elim
            | ok b μ3 =>
              rw [et] at h'
              intro b' H4 ρ4 t4 r4
              cases r4
              cases b with
              | false => exact iteF ⟨ρ4, μ3, (t'.trans t2).trans t4, Post.into (t2.trans t4) h'⟩
              | true =>
                refine iteT ?_
                intro s0' H0' C' cl' fp'
                refine hk s0' H0' C' cl' fp' ρ4 μ3 s1 σ3 H4 _ (t4.s hs3) t4.mem ?_
                simp only at h'
                cases ekk : kk s1 μ3 with
                | ex c m2 => rw [ekk] at h'; exact h'.elim
                | bad => rw [ekk] at h'; exact h'.elim
                | ok kv μ4 =>
                  rw [ekk] at h'
                  simp only at h'
                  intro yk H5 ρ5 t5 r5
                  intro s0' H0' C' cl' fp'
                  refine he s0' H0' C' cl' fp' ρ5 μ4 s1 σ3 H5 _ (t5.s (t4.s hs3)) t5.mem ?_
                  cases ee : e s1 μ4 with
                  | ex c m2 => rw [ee] at h'; exact h'.elim
                  | bad => rw [ee] at h'; exact h'.elim
                  | ok v μ5 =>
                    rw [ee] at h'
                    simp only at h'
                    intro w H6 ρ6 t6 r6
                    split at h'
                    · rename_i acc em
                      split at h'
                      · rename_i ky ek
                        split at h'
                        · rename_i hz
                          have hD6 : ρ6[μ1.length]? = some D := t6.ext.get (t5.ext.get (t4.ext.get (t2.ext.get hDr)))
                          obtain ⟨kvs, q6, rr⟩ := dct_of t6.mem hD6 em
                          have t7 := putD t6.mem hD6 em (RepKV.put (k := ky) r6 rr)
                          exact ⟨kvs, ky, keyU_ok (t6.v r5) ek, q6, by rw [rr.length]; exact lim_lt hz, ρ6, _, ((((t'.trans t2).trans t4).trans t5).trans t6).trans t7, Post.into ((((t2.trans t4).trans t5).trans t6).trans t7) h'⟩
                        · exact h'.elim
                      · exact h'.elim
                    · exact h'.elim
/-- y = {k: v for ..}, keys ints or texts -/
theorem ps_setDc {i : Nat} {y : Str} {py spos : Pos} {kx vx tg iter : Expr} {ifs : List Expr} {scope : Scope} {own : List (Str × Nat)} {pos : Pos} {wi : TI} {g : TG} {tt : TT} {tk tv : TE} (hc : X.calm = true) (hN : X.N.Nodup) (hy : X.N[i]? = some y)
    (hyl : X.env.scope.names.lookup y = some .local) (hsw : swapsWith (.DictComp kx vx [⟨tg, iter, ifs, 0⟩] scope pos) (some (.Name y py)) spos.line X.env = pure true) (hi : PI X tg iter wi) (ok : BlkOk X.N X.env.scope scope own)
    (hg : ∀ s H C cl fp, PG (X.blk s H scope (compEnvC scope cl C X.env) fp) tg g) (ht : ∀ s H C cl fp, PTs (X.blk s H scope (compEnvC scope cl C X.env) fp) ifs tt) (hk : ∀ s H C cl fp, PE (X.blk s H scope (compEnvC scope cl C X.env) fp) kx tk)
    (hv : ∀ s H C cl fp, PE (X.blk s H scope (compEnvC scope cl C X.env) fp) vx tv) (hs0 : ∀ x, foldedSetIterable iter X.env x = pure x := by intro _; rfl) :
    PS X (.Assign [.Name y py] (.DictComp kx vx [⟨tg, iter, ifs, 0⟩] scope pos) spos) (tAsg (tDc wi g tt tk tv (own.map (·.2))) (gName i)) := by
  refine ⟨fun pins s σ H D I h => ?_⟩
  rw [exec_Assign_Name_used _ _ _ _ hsw]
  refine wpAny_bind (wpAny_standAt (wpAny_bind ?_))
  show wpAny _ X.A (do let _ ← comprehension (.DictComp kx vx [⟨tg, iter, ifs, 0⟩] scope pos) scope X.env (firstIterPos [⟨tg, iter, ifs, 0⟩] pos) newDict false (eval iter X.env) (some (assign (.Name y py) X.env))) _ _ s
  have h' : tDc wi g tt tk tv (own.map (·.2)) σ H (fun x H1 => gName i x σ H1 D.nx) := h
  refine wpAny_bind (thn (dc_core (Qf := fun _ s' => SP X pins D .next s') hc hN I hi ok hg ht hk hv hs0 h' fun L C s' m H' I' q hn f => ?_) fun _ s' z => wpAny_pure (wpAny_pure z))
  show wpAny _ _ (assign (.Name y py) X.env (.ref L)) _ _ _
  refine wpAny_assign_Name (store_ok2 (v := V.ref L) I' hN hy (.inl hyl) rfl (fun s2 I2 ⟨a, sb, ha⟩ => ?_) (.inr hyl))
  obtain ⟨c0, c1, c2, c3, c4, c5⟩ := f
  have ne : C ≠ a := ha.elim (fun z => by rw [z]; exact c1) fun z e => c4 y a z e.symm
  exact ⟨m, hn.sameBut sb ne, fun h3 sb3 => ⟨_, H', I2.turned (t' := s2.toks) (fun b o hb e => (sb3.2 b hb).trans e) c0 c1 c3 c4 c5, q⟩⟩
theorem ce_dcK {tg iter : Expr} {ifs : List Expr} {kx vx : Expr} {scope : Scope} {own : List (Str × Nat)} {pos : Pos} {mi : FI} {g : Tgt} {t : FT} {kk e : FE} (G : Good X W (k + 40)) (hN : X.N.Nodup) (ok : BlkOk X.N X.env.scope scope own) (hi : CI X W tg iter mi)
    (hg : ∀ s H0 C cl fp, CG (X.blk s H0 scope (compEnvC scope cl C X.env) fp) tg g) (ht : ∀ s H0 C cl fp, CTs (X.blk s H0 scope (compEnvC scope cl C X.env) fp) W0 ifs t)
    (hk : ∀ s H0 C cl fp, CE (X.blk s H0 scope (compEnvC scope cl C X.env) fp) W0 kx kk) (he : ∀ s H0 C cl fp, CE (X.blk s H0 scope (compEnvC scope cl C X.env) fp) W0 vx e) (hsub : subT g (own.map (·.2)) = true)
    (hs0 : ∀ x, foldedSetIterable iter X.env x = pure x := by intro _; rfl) : CE X W (.DictComp kx vx [⟨tg, iter, ifs, 0⟩] scope pos) (fDcK mi (own.map (·.2)) g t kk e) :=
  fun ρ μ s σ H Q hs hm h => ⟨_, pe_dc G.calm hN pi_w ok pg_wb pts_wb pe_wb pe_wb hs0, dcK_reads hi hg ht hk he hsub hs hm h⟩
theorem cs_setDcK {i : Nat} {y : Str} {py : Pos} {tg iter : Expr} {ifs : List Expr} {kx vx : Expr} {scope : Scope} {own : List (Str × Nat)} {pos spos : Pos} {mi : FI} {g : Tgt} {t : FT} {kk e : FE} (G : Good X W (k + 40)) (hN : X.N.Nodup) (hy : X.N[i]? = some y) (hyl : X.env.scope.names.lookup y = some .local)
    (hsw : swapsWith (.DictComp kx vx [⟨tg, iter, ifs, 0⟩] scope pos) (some (.Name y py)) spos.line X.env = pure true) (ok : BlkOk X.N X.env.scope scope own) (hi : CI X W tg iter mi)
    (hg : ∀ s H0 C cl fp, CG (X.blk s H0 scope (compEnvC scope cl C X.env) fp) tg g) (ht : ∀ s H0 C cl fp, CTs (X.blk s H0 scope (compEnvC scope cl C X.env) fp) W0 ifs t)
    (hk : ∀ s H0 C cl fp, CE (X.blk s H0 scope (compEnvC scope cl C X.env) fp) W0 kx kk) (he : ∀ s H0 C cl fp, CE (X.blk s H0 scope (compEnvC scope cl C X.env) fp) W0 vx e) (hsub : subT g (own.map (·.2)) = true)
    (hs0 : ∀ x, foldedSetIterable iter X.env x = pure x := by intro _; rfl) :
    CS X W (.Assign [.Name y py] (.DictComp kx vx [⟨tg, iter, ifs, 0⟩] scope pos) spos) (sAsg (.one i) (fDcK mi (own.map (·.2)) g t kk e)) := by
  intro ρ μ s σ H D hs hm h
  refine ⟨_, ps_setDc G.calm hN hy hyl hsw pi_w ok pg_wb pts_wb pe_wb pe_wb hs0, ?_⟩
  refine dcK_reads (W := W) hi hg ht hk he hsub hs hm ?_
  exact PostS.bind hs h fun u μ1 x H1 ρ1 t1 r1 h1 => h1 _ H1 ρ1 (Stp.refl t1.mem) ((t1.s hs).set r1)
end
end Dg
/-! Dq: a def of a class, by its body. -/
namespace Dg
open PySem PySem.Spec PyProof.Rows L2 RZ
/-- a statement of a class's body -/
def inCls (st : Stmt) (j : Nat) : Stmt := match st with
  | .ClassDef _ _ _ body _ _ _ _ _ _ _ => body.getD j (.Pass ⟨0, 0, 0, 0⟩)
  | _ => .Pass ⟨0, 0, 0, 0⟩
abbrev FnQ (K : PySem.W.Frag) (x q : Str) (st : Stmt) (f : Addr) (fd : FuncData) : Prop := FunD K x q (defArgs st) (defBody st) (defScope st) [] [] f fd
theorem defQ_ok {P : Program} {w : World} {K : PySem.W.Frag} {mg : Str → Option Value} {base : Heap} {x q : Str} {st : Stmt} {f : Addr} {fd : FuncData} {N ps : List Str} {k : Nat} {body : FS} (F : FnQ K x q st f fd) (S : FnScope N ps (defScope st))
    (hb : ∀ (cdv : Value) (A : Around) (outer : List Env) (s : Shared) (H : Hp) (E : XK), Good (cxOf (L2.CX P w) P w K mg base N q (defScope st) f cdv A outer s H E) (fun cls d _ H => E cls d H) k →
      CSs (cxOf (L2.CX P w) P w K mg base N q (defScope st) f cdv A outer s H E) (fun cls d _ H => E cls d H) (defBody st) body) :
    FnOk P w K mg base (L2.CX P w) (k + 1) f fd ps (spF K mg ps.length (runDef N.length body)) := by
  refine F.ok S (fun vs H Q E h => h.1) (fun cdv A outer s H vs Q E hr h => ?_)
  obtain ⟨hl, ρ, μ, us, r, hm, hq⟩ := h
  have G : Good (cxOf (L2.CX P w) P w K mg base N q (defScope st) f cdv A outer s H E) (fun cls d _ H => E cls d H) k := ⟨rfl, hr, takes_of rfl rfl rfl rfl, passes_of rfl⟩
  refine hb cdv A outer s H E G ρ μ _ _ H _ (RepS.start r) hm ?_
  unfold runDef at hq
  cases e : body (us.map some ++ List.replicate (N.length - us.length) none) μ with
  | nx s' m => rw [e] at hq; exact fun σ' H' ρ' t _ => hq _ H' ρ' t .non
  | rt u m => rw [e] at hq; exact fun v H' ρ' t r => hq v H' ρ' t r
  | bk s' m => rw [e] at hq; exact hq.elim
  | ct s' m => rw [e] at hq; exact hq.elim
  | ex c s' m => rw [e] at hq; exact fun cls σ' H' ρ' t _ eq => hq cls H' ρ' t eq
  | bad => rw [e] at hq; exact hq.elim
end Dg
/-! Do: instances of own classes: attributes, methods, construction. -/
namespace Dg
open PySem PySem.Spec PyProof.Rows L2 RZ
def isO (c : Str) (μ : Mem) : U → Option (List (Str × U))
  | .ref r => match μ[r]? with
    | some (.obj c' fs) => if c' = c then some fs else none
    | _ => none
  | _ => none
def putFU (f : Str) (v : U) : List (Str × U) → List (Str × U)
  | [] => [(f, v)]
  | (g, x) :: r => if g = f then (g, v) :: r else (g, x) :: putFU f v r
def noEx : Res U → Res U
  | .ok u μ => .ok u μ
  | _ => .bad
section
variable {K : PySem.W.Frag} {H : Hp} {ρ : List Addr} {μ : Mem}
theorem isO_ok {c : Str} {u : U} {x : V} {fs : List (Str × U)} (hm : RepM K H ρ μ) (r : RepV K H ρ u x) (e : isO c μ u = some fs) : ∃ i a dx fvs, u = .ref i ∧ ρ[i]? = some a ∧ μ[i]? = some (.obj c fs) ∧ x = .ref a ∧ H a = some (.ins (He.ga K c) dx fvs) ∧ fvs.map (·.1) = fs.map (·.1) ∧ RepVs K H ρ (fs.map (·.2)) (fvs.map (·.2)) := by
  unfold isO at e
  split at e
  · rename_i i
    cases h : μ[i]? with
    | none => rw [h] at e; cases e
    | some cl =>
      rw [h] at e
      cases cl with
      | obj c' fs' =>
        try simp only at e
        split at e
        · rename_i hc
          subst hc
          cases e
          cases r with
          | ref e2 =>
            obtain ⟨dx, fvs, a1, a2, a3⟩ := hm.get e2 h
            exact ⟨i, _, dx, fvs, rfl, e2, h, rfl, a1, a2, a3⟩
        · cases e
      | _ => cases e
  · cases e
theorem lookup_rep : ∀ {fs : List (Str × U)} {fvs : List (Str × V)} {f : Str} {u : U}, fvs.map (·.1) = fs.map (·.1) → RepVs K H ρ (fs.map (·.2)) (fvs.map (·.2)) → fs.lookup f = some u → ∃ v, fvs.lookup f = some v ∧ RepV K H ρ u v
  | [], _, _, _, _, _, h => by cases h
  | (g, w) :: fs, [], _, _, e, _, _ => by simp at e
  | (g, w) :: fs, (g', v) :: fvs, f, u, e, r, h => by
    simp only [List.map_cons, List.cons.injEq] at e
    obtain ⟨e1, e2⟩ := e
    cases r with
    | cons r1 r2 =>
      rw [List.lookup_cons] at h ⊢
      try simp only at e1
      rw [e1]
      split at h
      · cases h; exact ⟨_, rfl, r1⟩
      · exact lookup_rep e2 r2 h
theorem lookup_non : ∀ {fs : List (Str × U)} {fvs : List (Str × V)} {f : Str}, fvs.map (·.1) = fs.map (·.1) → fs.lookup f = none → fvs.lookup f = none
  | [], [], _, _, _ => rfl
  | [], _ :: _, _, e, _ => by simp at e
  | (g, w) :: fs, [], _, e, _ => by simp at e
  | (g, w) :: fs, (g', v) :: fvs, f, e, h => by
    simp only [List.map_cons, List.cons.injEq] at e
    obtain ⟨e1, e2⟩ := e
    rw [List.lookup_cons] at h ⊢
    try simp only at e1
    rw [e1]
    split at h
    · cases h
    · exact lookup_non e2 h
theorem put_rep : ∀ {fs : List (Str × U)} {fvs : List (Str × V)} {f : Str} {u : U} {v : V}, fvs.map (·.1) = fs.map (·.1) → RepVs K H ρ (fs.map (·.2)) (fvs.map (·.2)) → RepV K H ρ u v → (putF f v fvs).map (·.1) = (putFU f u fs).map (·.1) ∧ RepVs K H ρ ((putFU f u fs).map (·.2)) ((putF f v fvs).map (·.2))
  | [], [], _, _, _, _, _, r => ⟨rfl, .cons r .nil⟩
  | [], _ :: _, _, _, _, e, _, _ => by simp at e
  | (g, w) :: fs, [], _, _, _, e, _, _ => by simp at e
  | (g, w) :: fs, (g', x) :: fvs, f, u, v, e, r, rv => by
    simp only [List.map_cons, List.cons.injEq] at e
    obtain ⟨e1, e2⟩ := e
    cases r with
    | cons r1 r2 =>
      try simp only at e1
      subst e1
      unfold putF putFU
      split
      · exact ⟨by simp [e2], .cons rv r2⟩
      · obtain ⟨a, b⟩ := put_rep e2 r2 rv (f := f)
        exact ⟨by simp [a], .cons r1 b⟩
end
section
variable {X : Cx} {W : WX} {k : Nat}
/-! ### e.f -/
def gFld (c f : Str) (u : U) (μ : Mem) : Res U := match isO c μ u with
  | some fs => (match fs.lookup f with
    | some v => .ok v μ
    | none => .bad)
  | none => .bad
def fFld (c f : Str) (me : FE) : FE := fun s μ => (me s μ).bind fun u μ1 => gFld c f u μ1
theorem ce_fld {c f : Str} {e : Expr} {me : FE} {pos : Pos} (cl : Cls X.K (He.ga X.K c)) (na : NoAttr X.K (He.ga X.K c) f) (he : CE X W e me) (hb : attributeBase e f X.env (eval e X.env) = eval e X.env := by rfl) : CE X W (.Attribute e f pos) (fFld c f me) := by
  intro ρ μ s σ H Q hs hm h
  refine ⟨_, pe_fld pe_w hb, ?_⟩
  refine he ρ μ s σ H _ hs hm (h.bind fun u μ1 x H1 ρ1 t1 r1 h1 => ?_)
  unfold gFld at h1
  cases e1 : isO c μ1 u with
  | none => rw [e1] at h1; exact h1.elim
  | some fs =>
    rw [e1] at h1
    cases e2 : fs.lookup f with
    | none => simp only [e2] at h1; exact h1.elim
    | some w =>
      simp only [e2] at h1
      obtain ⟨i, a, dx, fvs, rfl, ha, hc, rfl, hH, hk, hv⟩ := isO_ok t1.mem r1 e1
      obtain ⟨v, l1, l2⟩ := lookup_rep hk hv e2
      exact ⟨a, _, dx, fvs, v, rfl, hH, cl, na, l1, h1 v H1 ρ1 (Stp.refl t1.mem) l2⟩
/-! ### e.f = v -/
def stO (c f : Str) (v u : U) (μ : Mem) : Option Mem := match isO c μ u, u with
  | some fs, .ref r => if fs.length < 1000 then some (μ.set r (.obj c (putFU f v fs))) else none
  | _, _ => none
def sFldS (c f : Str) (mo me : FE) : FS := fun s μ => ofR (me s μ) s fun v μ1 => ofR (mo s μ1) s fun u μ2 => match stO c f v u μ2 with
  | some μ3 => .nx s μ3
  | none => .bad
theorem cs_fld {c f : Str} {o e : Expr} {mo me : FE} {pos pos' : Pos} (cl : Cls X.K (He.ga X.K c)) (na : NoAttr X.K (He.ga X.K c) f) (ho : CE X W o mo) (he : CE X W e me) (hs0 : swapsWith e (some (.Attribute o f pos')) pos.line X.env = pure false := by rfl) : CS X W (.Assign [.Attribute o f pos'] e pos) (sFldS c f mo me) := by
  intro ρ μ s σ H D hs hm h
  refine ⟨_, ps_fld pe_w pe_w hs0, ?_⟩
  refine he ρ μ s σ H _ hs hm (PostS.bind hs h fun v μ1 y H1 ρ1 t1 r1 h1 => ?_)
  refine ho ρ1 μ1 s σ H1 _ (t1.s hs) t1.mem (PostS.bind (t1.s hs) h1 fun u μ2 x H2 ρ2 t2 r2 h2 => ?_)
  unfold stO at h2
  cases e1 : isO c μ2 u with
  | none => rw [e1] at h2; exact h2.elim
  | some fs =>
    obtain ⟨i, a, dx, fvs, rfl, ha, hc, rfl, hH, hk, hv⟩ := isO_ok t2.mem r2 e1
    rw [e1] at h2
    simp only at h2
    split at h2
    · rename_i μ3 e3
      split at e3
      · rename_i hl
        cases e3
        have hlen : fvs.length < 1000 := by
          have := congrArg List.length hk
          simp only [List.length_map] at this
          omega
        refine ⟨a, _, dx, fvs, rfl, hH, cl, na, hlen, ?_⟩
        have ry := t2.v r1
        obtain ⟨p1, p2⟩ := put_rep (f := f) hk hv ry
        have t : TX H2 (upd H2 a (.ins (He.ga X.K c) dx (putF f y fvs))) := (t2.mem.get ha hc).tx rfl
        have st := Stp.put t2.mem ha hc rfl (o := .ins (He.ga X.K c) dx (putF f y fvs)) (c := .obj c (putFU f v fs)) ⟨dx, _, upd_same, p1, p2.mono t (Ext.refl _)⟩
        exact h2 σ _ ρ2 st (st.s (t2.s (t1.s hs)))
      · cases e3
    · exact h2.elim
/-! ### o.m(e, ..) -/
theorem pass_no {X : Cx} : Passes (L2.CX X.prog X.w) X (fun _ _ _ => False) := fun _ _ _ _ _ _ _ h => by
  obtain ⟨_, _, _, _, _, _, _, _, _, _, _, _, z⟩ := h
  exact z.elim
theorem noEx_ok {r : Res U} {u : U} {m : Mem} (h : noEx r = .ok u m) : r = .ok u m := by
  cases r <;> first | exact h | cases h
def fMeth (c m : Str) (n : Nat) (g : List U → Mem → Res U) (mo : FE) (ma : FA) : FE := fun s μ => (mo s μ).bind fun u μ1 => match isO c μ1 u with
  | some fs => if (fs.lookup m).isNone = true then (ma s μ1).bind fun us μ2 => if us.length + 1 = n then noEx (g (u :: us) μ2) else .bad else .bad
  | none => .bad
theorem ce_meth {c m : Str} {f : Addr} {fd : FuncData} {ps : List Str} {g : List U → Mem → Res U} {o e : Expr} {es : List Expr} {mo : FE} {ma : FA} {apos pos : Pos} {j j2 : Nat} (G : Good X W j2) (F : FnOk X.prog X.w X.K X.mg X.base (L2.CX X.prog X.w) j f fd ps (spF X.K X.mg ps.length g))
    (ho : CE X W o mo) (ha : CA X W (e :: es) ma) (hp : ∀ {to : TE} {t : TA}, PE X o to → PA X (e :: es) t → PE X (.Call (.Attribute o m apos) (e :: es) [] pos) (tMeth (He.ga X.K c) m (spF X.K X.mg ps.length g) [] (fun _ _ _ => False) to t)) :
    CE X W (.Call (.Attribute o m apos) (e :: es) [] pos) (fMeth c m ps.length g mo ma) := by
  intro ρ μ s σ H Q hs hm h
  refine ⟨_, hp pe_w pa_w, ?_⟩
  refine ho ρ μ s σ H _ hs hm (h.bind fun u μ1 x H1 ρ1 t1 r1 h1 => ?_)
  cases e1 : isO c μ1 u with
  | none => rw [e1] at h1; exact h1.elim
  | some fs =>
    rw [e1] at h1
    simp only at h1
    split at h1
    · rename_i hl
      obtain ⟨i, a, dx, fvs, rfl, ha1, hc, rfl, hH, hk, hv⟩ := isO_ok t1.mem r1 e1
      refine ⟨a, dx, fvs, rfl, hH, lookup_non hk (Option.isNone_iff_eq_none.mp hl), ?_⟩
      refine ha ρ1 μ1 s σ H1 _ (t1.s hs) t1.mem (h1.bind fun us μ2 vs H2 ρ2 t2 r2 h2 => ?_)
      split at h2
      · rename_i hn
        cases hz : noEx (g (.ref i :: us) μ2) with
        | ok w μ3 =>
          rw [hz] at h2
          have hg := noEx_ok hz
          refine ⟨by rw [List.append_nil, List.length_cons, ← RepVs.length r2]; exact hn, ρ2, μ2, .ref i :: us, ?_, t2.mem, ?_⟩
          · rw [List.append_nil]; exact .cons (t2.v r1) r2
          · rw [hg]
            exact fun v H' ρ' t r => h2 v H' ρ' t r
        | ex c' m' => cases hq : g (.ref i :: us) μ2 <;> rw [hq] at hz <;> cases hz
        | bad => rw [hz] at h2; exact h2.elim
      · exact h2.elim
    · exact h1.elim
/-! ### C(e, ..) -/
def fMake (c : Str) (n : Nat) (g : List U → Mem → Res U) (ma : FA) : FE := fun s μ => (ma s μ).bind fun us μ1 => if us.length + 1 = n then
    match g (.ref μ1.length :: us) (μ1 ++ [.obj c []]) with
    | .ok .non μ2 => .ok (.ref μ1.length) μ2
    | _ => .bad
  else .bad
theorem ce_make {c : Str} {f : Addr} {fd : FuncData} {ps : List Str} {g : List U → Mem → Res U} {x : Str} {e : Expr} {es : List Expr} {ma : FA} {p pos : Pos} {j j2 : Nat} (G : Good X W j2) (F : FnOk X.prog X.w X.K X.mg X.base (L2.CX X.prog X.w) j f fd ps (spF X.K X.mg ps.length g))
    (ha : CA X W (e :: es) ma) (hp : ∀ {t : TA}, PA X (e :: es) t → PE X (.Call (.Name x p) (e :: es) [] pos) (tMake (He.ga X.K c) (spF X.K X.mg ps.length g) [] (fun _ _ _ => False) t)) :
    CE X W (.Call (.Name x p) (e :: es) [] pos) (fMake c ps.length g ma) := by
  intro ρ μ s σ H Q hs hm h
  refine ⟨_, hp pa_w, ?_⟩
  refine ha ρ μ s σ H _ hs hm (h.bind fun us μ1 vs H1 ρ1 t1 r1 h1 => ?_)
  intro x dx nx ndx nex
  split at h1
  · rename_i hn
    have s1 : Stp X.K ρ1 H1 ρ1 (upd H1 dx (.own x)) μ1 := Stp.temp t1.mem ndx
    have nx' : upd H1 dx (.own x) x = none := by rw [upd_ne (Ne.symm nex)]; exact nx
    have s2 : Stp X.K ρ1 (upd H1 dx (.own x)) (ρ1 ++ [x]) (upd (upd H1 dx (.own x)) x (.ins (He.ga X.K c) dx [])) (μ1 ++ [.obj c []]) := Stp.new s1.mem nx' ⟨dx, [], upd_same, rfl, .nil⟩
    have t := s1.trans s2
    have rr : RepV X.K (upd (upd H1 dx (.own x)) x (.ins (He.ga X.K c) dx [])) (ρ1 ++ [x]) (.ref μ1.length) (.ref x) := refN s1.mem
    refine ⟨by rw [List.append_nil, List.length_cons, ← RepVs.length r1]; exact hn, ρ1 ++ [x], _, .ref μ1.length :: us, ?_, t.mem, ?_⟩
    · rw [List.append_nil]; exact .cons rr (t.vs r1)
    · cases hz : g (.ref μ1.length :: us) (μ1 ++ [.obj c []]) with
      | ok w μ2 =>
        rw [hz] at h1
        cases w with
        | non =>
          intro v H' ρ' t' r'
          cases r'
          exact ⟨rfl, h1 (.ref x) H' ρ' (t.trans t') (t'.v rr)⟩
        | _ => exact h1.elim
      | ex c' m' => rw [hz] at h1; exact h1.elim
      | bad => rw [hz] at h1; exact h1.elim
  · exact h1.elim
end
end Dg
/-! De: a walk over enumerate(list); list(range(n)). -/
namespace Dg
open PySem PySem.Spec PyProof.Rows L2
theorem it_enum {K : PySem.W.Frag} {H : Hp} {ρ : List Addr} {r : Nat} {a : Addr} (hr : ρ[r]? = some a) : ItOk K ρ H (.enum r) (Ite K a) := by
  intro i ρ' H' μ' ex tx hm
  simp only [itemAt]
  cases e : listAt μ' r with
  | none => trivial
  | some us =>
    obtain ⟨vs, q, rr⟩ := listAt_ok hm (ex.get hr) e
    simp only [Option.map_some]
    cases h : us[i]? with
    | none =>
      simp only [Option.map_none]
      exact ⟨vs, q, by rw [← RepVs.length rr]; exact List.getElem?_eq_none_iff.mp h⟩
    | some u =>
      simp only [Option.map_some]
      obtain ⟨x, hx, rx⟩ := RepVs.get rr h
      refine ⟨⟨vs, x, q, hx⟩, ?_⟩
      rintro y H'' ⟨T, x', rfl, nT, rfl, hall⟩
      have e2 := hall vs q
      rw [hx] at e2
      cases e2
      exact ⟨Stp.temp hm nT, newT nT (.cons .int (.one rx))⟩
section
variable {X : Cx} {W : WX}
def iEnumU (a : FE) : FI := fun s μ => (a s μ).bind fun u μ1 => match u with
  | .ref r => match listAt μ1 r with
    | some _ => .ok (.enum r) μ1
    | none => .bad
  | _ => .bad
theorem ci_enum {tg a : Expr} {ma : FE} {p pos : Pos} (ha : CE X W a ma)
    (hp : ∀ {ta : TA}, PA X [a] ta → PI X tg (.Call (.Name "enumerate" p) [a] [] pos) (iEnum X.K ta)) (hs1 : starEach [a] X.env = (false, eval a X.env) :: starEach [] X.env := by rfl) :
    CI X W tg (.Call (.Name "enumerate" p) [a] [] pos) (iEnumU ma) := by
  intro ρ μ s σ H R hs hm h
  refine ⟨_, hp (pa_cons pe_w pa_nil hs1), ?_⟩
  refine ha ρ μ s σ H _ hs hm (h.bind fun u μ1 x H1 ρ1 t1 r1 h1 => ?_)
  split at h1
  · cases r1 with
    | ref b1 =>
      split at h1
      · rename_i e2
        obtain ⟨xs, q2, _⟩ := listAt_ok t1.mem b1 e2
        exact ⟨_, _, rfl, q2, h1.ok (Stp.refl t1.mem) (it_enum b1)⟩
      · exact h1.elim
  · exact h1.elim
/-- list(range(n)) -/
def fLrg (a : FE) : FE := fun s μ => (a s μ).bind fun u μ1 => match u with
  | .int n => if decide (0 ≤ n ∧ n ≤ 16777216) then .ok (.ref μ1.length) (μ1 ++ [.lst ((List.range n.toNat).map fun i => U.int (i : Nat))]) else .bad
  | _ => .bad
theorem rep_ints {K : PySem.W.Frag} {H : Hp} {ρ : List Addr} : ∀ xs : List Nat, RepVs K H ρ (xs.map fun i => U.int (i : Nat)) (xs.map fun i => V.int (0 + (i : Nat)))
  | [] => .nil
  | x :: xs => by
    rw [List.map_cons, List.map_cons, Int.zero_add]
    exact .cons .int (rep_ints xs)
theorem ce_lrg {a : Expr} {ma : FE} {p p2 pos pos2 : Pos} (ha : CE X W a ma)
    (hp : ∀ {ta : TE}, PE X a ta → PE X (.Call (.Name "list" p) [.Call (.Name "range" p2) [a] [] pos2] [] pos) (tLstRg (tRg1 ta))) : CE X W (.Call (.Name "list" p) [.Call (.Name "range" p2) [a] [] pos2] [] pos) (fLrg ma) := by
  intro ρ μ s σ H Q hs hm h
  refine ⟨_, hp pe_w, ?_⟩
  refine ha ρ μ s σ H _ hs hm (h.bind fun u μ1 x H1 ρ1 t1 r1 h1 => ?_)
  split at h1
  · rename_i n
    cases r1
    split at h1
    · rename_i hn
      obtain ⟨h3, h4⟩ := of_decide_eq_true hn
      refine ⟨n, rfl, .of_le (Int.le_refl _) h4 (by decide) h3, fun q nq => ?_⟩
      unfold rgV
      rw [Int.sub_zero]
      exact h1.ok (newL t1.mem nq (rep_ints _)) (refN t1.mem)
    · exact h1.elim
  · exact h1.elim
end
end Dg
/-! Dw: dicts whose keys are tuples of ints: locks, walks over the keys, displays. -/
namespace Dg
open PySem PySem.Spec PyProof.Rows L2
section
variable {X : Cx} {W : WX} {k : Nat}
def lkT : Cell → Option Cell
  | .dtt kus => some (.fdt kus)
  | _ => none
def ulT : Cell → Option Cell
  | .fdt kus => some (.dtt kus)
  | _ => none
def ulMT (r : Nat) (μ : Mem) : Option Mem := match μ[r]? with
  | some c => match ulT c with
    | some c' => some (μ.set r c')
    | none => none
  | none => none
def ulOT (r : Nat) (o : Out) : Out := match o with
  | .nx s μ => match ulMT r μ with
    | some μ' => .nx s μ'
    | none => .bad
  | .rt u μ => match ulMT r μ with
    | some μ' => .rt u μ'
    | none => .bad
  | .bk s μ => match ulMT r μ with
    | some μ' => .bk s μ'
    | none => .bad
  | .ct s μ => match ulMT r μ with
    | some μ' => .ct s μ'
    | none => .bad
  | .ex c s μ => .ex c s μ
  | .bad => .bad
/-- the statement, while the dict that e names is locked -/
def sLockT (e : FE) (b : FS) : FS := fun s μ => match e s μ with
  | .ok (.ref r) _ => match μ[r]? with
    | some c => match lkT c with
      | some c' => ulOT r (b s (μ.set r c'))
      | none => b s μ
    | none => b s μ
  | _ => b s μ
theorem ulMT_ok {K : PySem.W.Frag} {H H' : Hp} {ρ ρ' : List Addr} {μ' μ2 : Mem} {r : Nat} {d : Addr} {o : Obj} {u : HO} {kvs0 : Ti} (hu : u = TiD d kvs0) (h0 : H d = some u) (hr : ρ[r]? = some d)
    (t : Stp K ρ (upd H d (.frz o u)) ρ' H' μ') (h1 : H' d = some (.frz o u)) (e : ulMT r μ' = some μ2) : Stp K ρ H ρ' (upd H' d u) μ2 ∧ TV H' (upd H' d u) := by
  subst hu
  have tv : TV H' (upd H' d (TiD d kvs0)) := TV.unlock h1 (fun _ => by simp [TiD]) (fun _ => by simp [TiD])
  refine ⟨⟨t.ext, TX.across h0 (by simp [Sft, TiD]) t.tx h1 _, ?_⟩, tv⟩
  unfold ulMT at e
  cases ec : μ'[r]? with
  | none => rw [ec] at e; cases e
  | some c =>
    rw [ec] at e
    cases c with
    | fdt kus =>
      cases e
      obtain ⟨o', kvs, q1, q0, q2, q3⟩ := t.mem.get (t.ext.get hr) ec
      rw [h1] at q1
      obtain ⟨e1, e2⟩ := HO.frz.inj (Option.some.inj q1)
      rw [e2]
      rw [e2] at tv
      exact t.mem.putV tv (t.ext.get hr) ⟨_, upd_same, fun p hp => tv.seq (q0 p hp), q2, q3.monoV tv (Ext.refl _)⟩
    | _ => cases e
theorem cs_lockT {st : Stmt} {e : FE} {m : FS} (h : CS X W st m) : CS X W st (sLockT e m) := by
  intro ρ μ s σ H D hs hm p
  unfold sLockT at p
  have plain : PostS X W ρ H (m s μ) D → WS X st D σ H := h ρ μ s σ H D hs hm
  split at p
  · rename_i r μ1 _
    split at p
    · rename_i c ec
      split at p
      · rename_i c' el
        cases c with
        | dtt kus =>
          cases el
          have hlt : r < ρ.length := by rw [hm.len]; exact (List.getElem?_eq_some_iff.mp ec).1
          have hr : ρ[r]? = some ρ[r] := List.getElem?_eq_getElem hlt
          obtain ⟨kvs, q1, q0, q2, q3⟩ := hm.get hr ec
          refine ⟨_, ps_lock ps_w, ρ[r], TiD ρ[r] kvs, q1, trivial, fun od => ?_⟩
          have tv : TV H (upd H ρ[r] (.frz od (TiD ρ[r] kvs))) := TV.lock q1 (by simp [Sft, TiD])
          have hm' : RepM X.K (upd H ρ[r] (.frz od (TiD ρ[r] kvs))) ρ (μ.set r (.fdt kus)) := hm.putV tv hr ⟨od, kvs, upd_same, fun p hp => tv.seq (q0 p hp), q2, q3.monoV tv (Ext.refl _)⟩
          have hs' : RepS X.K (upd H ρ[r] (.frz od (TiD ρ[r] kvs))) ρ s σ := ⟨hs.len, fun i u e => by obtain ⟨v, a1, a2⟩ := hs.get i u e; exact ⟨v, a1, a2.monoV tv (Ext.refl _)⟩⟩
          refine h ρ (μ.set r (.fdt kus)) s σ _ _ hs' hm' ?_
          have frz : ∀ {ρ' H' μ'}, Stp X.K ρ (upd H ρ[r] (.frz od (TiD ρ[r] kvs))) ρ' H' μ' → H' ρ[r] = some (.frz od (TiD ρ[r] kvs)) := fun t => t.tx.2 _ _ _ upd_same
          cases eo : m s (μ.set r (.fdt kus)) with
          | nx s1 m1 =>
            rw [eo] at p
            intro σ' H' ρ' t rs
            refine ⟨frz t, ?_⟩
            simp only [ulOT] at p
            split at p
            · rename_i m2 e2
              obtain ⟨t2, tv2⟩ := ulMT_ok rfl q1 hr t (frz t) e2
              exact p σ' _ ρ' t2 ⟨rs.len, fun i u e => by obtain ⟨v, a1, a2⟩ := rs.get i u e; exact ⟨v, a1, a2.monoV tv2 (Ext.refl _)⟩⟩
            · exact p.elim
          | rt u m1 =>
            rw [eo] at p
            intro v H' ρ' t rv
            refine ⟨frz t, ?_⟩
            simp only [ulOT] at p
            split at p
            · rename_i m2 e2
              obtain ⟨t2, tv2⟩ := ulMT_ok rfl q1 hr t (frz t) e2
              exact p v _ ρ' t2 (rv.monoV tv2 (Ext.refl _))
            · exact p.elim
          | bk s1 m1 =>
            rw [eo] at p
            intro σ' H' ρ' t rs
            refine ⟨frz t, ?_⟩
            simp only [ulOT] at p
            split at p
            · rename_i m2 e2
              obtain ⟨t2, tv2⟩ := ulMT_ok rfl q1 hr t (frz t) e2
              exact p σ' _ ρ' t2 ⟨rs.len, fun i u e => by obtain ⟨v, a1, a2⟩ := rs.get i u e; exact ⟨v, a1, a2.monoV tv2 (Ext.refl _)⟩⟩
            · exact p.elim
          | ct s1 m1 =>
            rw [eo] at p
            intro σ' H' ρ' t rs
            refine ⟨frz t, ?_⟩
            simp only [ulOT] at p
            split at p
            · rename_i m2 e2
              obtain ⟨t2, tv2⟩ := ulMT_ok rfl q1 hr t (frz t) e2
              exact p σ' _ ρ' t2 ⟨rs.len, fun i u e => by obtain ⟨v, a1, a2⟩ := rs.get i u e; exact ⟨v, a1, a2.monoV tv2 (Ext.refl _)⟩⟩
            · exact p.elim
          | ex c2 s1 m1 =>
            rw [eo] at p
            intro cls σ' H' ρ' t rs em
            exact p cls σ' H' ρ' ⟨t.ext, TX.into q1 (by simp [Sft, TiD]) t.tx, t.mem⟩ rs em
          | bad => rw [eo] at p; exact p.elim
        | _ => cases el
      · exact plain p
    · exact plain p
  · exact plain p
/-- an expression, while the dict that e names is locked -/
def ulRT (r : Nat) (o : Res U) : Res U := match o with
  | .ok u μ => match ulMT r μ with
    | some μ' => .ok u μ'
    | none => .bad
  | .ex c μ => .ex c μ
  | .bad => .bad
def fLockT (e : FE) (b : FE) : FE := fun s μ => match e s μ with
  | .ok (.ref r) _ => match μ[r]? with
    | some c => match lkT c with
      | some c' => ulRT r (b s (μ.set r c'))
      | none => b s μ
    | none => b s μ
  | _ => b s μ
theorem ce_lockT {x : Expr} {e : FE} {m : FE} (h : CE X W x m) : CE X W x (fLockT e m) := by
  intro ρ μ s σ H Q hs hm p
  unfold fLockT at p
  have plain : Post X W σ relV ρ H (m s μ) Q → WE X x σ H Q := h ρ μ s σ H Q hs hm
  split at p
  · rename_i r μ1 _
    split at p
    · rename_i c ec
      split at p
      · rename_i c' el
        cases c with
        | dtt kus =>
          cases el
          have hlt : r < ρ.length := by rw [hm.len]; exact (List.getElem?_eq_some_iff.mp ec).1
          have hr : ρ[r]? = some ρ[r] := List.getElem?_eq_getElem hlt
          obtain ⟨kvs, q1, q0, q2, q3⟩ := hm.get hr ec
          refine ⟨_, pe_lock pe_w, ρ[r], TiD ρ[r] kvs, q1, trivial, fun od => ?_⟩
          have tv : TV H (upd H ρ[r] (.frz od (TiD ρ[r] kvs))) := TV.lock q1 (by simp [Sft, TiD])
          have hm' : RepM X.K (upd H ρ[r] (.frz od (TiD ρ[r] kvs))) ρ (μ.set r (.fdt kus)) := hm.putV tv hr ⟨od, kvs, upd_same, fun p hp => tv.seq (q0 p hp), q2, q3.monoV tv (Ext.refl _)⟩
          have hs' : RepS X.K (upd H ρ[r] (.frz od (TiD ρ[r] kvs))) ρ s σ := ⟨hs.len, fun i u e => by obtain ⟨v, a1, a2⟩ := hs.get i u e; exact ⟨v, a1, a2.monoV tv (Ext.refl _)⟩⟩
          refine h ρ (μ.set r (.fdt kus)) s σ _ _ hs' hm' ?_
          have frz : ∀ {ρ' H' μ'}, Stp X.K ρ (upd H ρ[r] (.frz od (TiD ρ[r] kvs))) ρ' H' μ' → H' ρ[r] = some (.frz od (TiD ρ[r] kvs)) := fun t => t.tx.2 _ _ _ upd_same
          cases eo : m s (μ.set r (.fdt kus)) with
          | ok u m1 =>
            rw [eo] at p
            intro v H' ρ' t rv
            refine ⟨frz t, ?_⟩
            simp only [ulRT] at p
            split at p
            · rename_i m2 e2
              obtain ⟨t2, tv2⟩ := ulMT_ok rfl q1 hr t (frz t) e2
              exact p v _ ρ' t2 (RepV.monoV tv2 (Ext.refl _) rv)
            · exact p.elim
          | ex c2 m1 =>
            rw [eo] at p
            intro cls H' ρ' t em
            exact p cls H' ρ' ⟨t.ext, TX.into q1 (by simp [Sft, TiD]) t.tx, t.mem⟩ em
          | bad => rw [eo] at p; exact p.elim
        | _ => cases el
      · exact plain p
    · exact plain p
  · exact plain p
/-! ### for k in d -/
theorem frzI {pins : List (Addr × Obj)} {σ : L2.St} {H : Hp} {s : Shared} {d : Addr} {o : Obj} {xs : Ti} (I : Inv X pins σ H s) (h : H d = some (.frz o (TiD d xs))) :
    (d == sysModules) = false ∧ s.heap.get? d = some o ∧ o.ExactDict ∧ ∃ (es : Array DictEntry) (ep : Nat), o.data = .dict es ep ∧ es.size = xs.length ∧
      ∀ (i : Nat) (p : List Int × Addr × V), xs[i]? = some p → ∃ en : DictEntry, es[i]? = some en ∧ en.key = .ref p.2.1 := by
  obtain ⟨hd, r, _, _⟩ := I.hok d _ h
  obtain ⟨hs, hl, _, ys, pr, o', es, ep, ho, hx, hdt, he⟩ := r
  rw [hd] at ho
  cases ho
  have l1 : es.size = ys.length := by
    have := congrArg List.length he
    simpa using this
  have l2 : xs.length = ys.length := Paired.length pr
  refine ⟨hs, hd, hx, es, ep, hdt, by omega, fun i p e => ?_⟩
  obtain ⟨b, hb, e1, e2, _⟩ := paired_get pr e
  have q : es.toList[i]? = some (tiE b) := by rw [he, List.getElem?_map, hb]; rfl
  rw [Array.getElem?_toList] at q
  exact ⟨_, q, by rw [e2]; rfl⟩
/-- the keys of the locked dict at d: each key's own tuple -/
def ItkI (d : Addr) (o : Obj) (xs : Ti) : It :=
  ⟨fun i H => H d = some (.frz o (TiD d xs)) ∧ i < xs.length, fun i H x H' => H' = H ∧ ∃ p, xs[i]? = some p ∧ x = .ref p.2.1, fun i H => H d = some (.frz o (TiD d xs)) ∧ xs.length ≤ i⟩
theorem turn_keysI {P : Program} {w : World} {K : PySem.W.Frag} {tg : Expr} {d : Addr} {o : Obj} {es : Array DictEntry} {ep : Nat} {xs : Ti} (it : Addr) (hod : o.data = .dict es ep) : Turn P w K tg (ItkI d o xs) [it] it (fun i h => h.IsKeyIter it d i xs.length ep) where
  mem := by simp
  obj := fun i h st b hb => by
    have e : b = it := by simpa using hb
    subst e
    obtain ⟨oi, e, c, dd⟩ := st
    exact ⟨oi, e, fun v z => by rw [dd] at z; cases z⟩
  keep := fun i h h' st k => st.at fun oi e => k it (by simp) oi e
  item := by
    intro X hP hw hK hc i pins s σ H E I hf st hg
    subst hP hw hK
    obtain ⟨hd, hi⟩ := hg
    obtain ⟨f0, f1, f2, f3, f4, f5⟩ := hf it (by simp)
    obtain ⟨hs, hgd, hx, es', ep', hdt, hsz, ent⟩ := frzI I hd
    obtain ⟨rfl, rfl⟩ := dict_ep hod hdt
    obtain ⟨p, hp⟩ : ∃ p, xs[i]? = some p := ⟨xs[i], List.getElem?_eq_getElem hi⟩
    obtain ⟨en, hen, hkey⟩ := ent i p hp
    refine next_key_item st hgd hdt hsz hen fun h' st' sb => ?_
    have I1 : Inv X pins σ H { s with heap := h' } := I.turned (t' := s.toks) (fun b ob hb e => (sb.2 b hb).trans e) f0 f1 f3 f4 f5
    obtain ⟨oi, e, c, dd⟩ := id st'
    exact ⟨en.key, rfl, go_of (s := { s with heap := h' }) e c dd (by decide) ⟨.ref p.2.1, H, I1, hkey, ⟨rfl, p, hp, rfl⟩, st', fun b hb => (hf b hb).1⟩⟩
  done := by
    intro X hP hw hK hc i pins s σ H E I hf st hg
    subst hP hw hK
    obtain ⟨hd, hi⟩ := hg
    obtain ⟨f0, f1, f2, f3, f4, f5⟩ := hf it (by simp)
    obtain ⟨hs, hgd, hx, es', ep', hdt, hsz, ent⟩ := frzI I hd
    obtain ⟨rfl, rfl⟩ := dict_ep hod hdt
    exact next_key_end (I.ok.hd hc) st hgd hdt hsz hi fun h' eb => ⟨rfl, I.turned (t' := s.toks) (fun b ob hb e => eb b ob hb e) f0 f1 f3 f4 f5⟩
  self := fun A i s Q E st h => by
    refine wpAny_pyIter_slot st.typeIs F.slot_dict_keyiterator_iter (wpAny_call_entry F.slot_dict_keyiterator_iter st.typeIs F.entry_dict_keyiterator_iter ?_ (F.args_dict_keyiterator_iter_1 _))
    show wpAny _ _ (ret (.ref it)) _ _ s
    exact wpAny_pure ⟨_, rfl, "dict_keyiterator", _, st.typeIs, F.slot_dict_keyiterator_next.lookup, h⟩
def iKeysI (td : TE) : TI := fun σ H R => td σ H fun x H1 => ∃ d o xs, x = .ref d ∧ H1 d = some (.frz o (TiD d xs)) ∧ R (ItkI d o xs) H1
theorem pi_keysI {tg e : Expr} {td : TE} (he : PE X e td) : PI X tg e (iKeysI td) := by
  refine ⟨fun pins s σ H R I h => ?_⟩
  refine thn (he.run pins s σ H _ I h) fun u s1 ⟨x, H1, I1, rx, d, o, xs, ex, hd, q⟩ => ?_
  subst ex
  obtain rfl : u = Value.ref d := rx
  obtain ⟨hs, hgd, hx, es, ep, hdt, hsz, ent⟩ := frzI I1 hd
  refine iter_keys hs hgd hx hdt (pi_one (tk := s1.toks) I1 _ (turn_keysI _ hdt) ⟨_, Heap.get?_push_size _ rfl, rfl, ?_⟩ q)
  rw [hsz] <;> rfl
def fdtU (μ : Mem) : U → Option (List (List Int × U))
  | .ref r => match μ[r]? with
    | some (.fdt kus) => some kus
    | _ => none
  | _ => none
def tupsU (kus : List (List Int × U)) : List U := kus.map fun p => .tup (p.1.map U.int)
def iKeysT (a : FE) : FI := fun s μ => (a s μ).bind fun u μ1 => match fdtU μ1 u with
  | some kus => .ok (.seq (tupsU kus)) μ1
  | none => .bad
theorem rep_is {K : PySem.W.Frag} {H : Hp} {ρ : List Addr} : ∀ xs : List Int, RepVs K H ρ (xs.map U.int) (xs.map V.int)
  | [] => .nil
  | _ :: xs => .cons .int (rep_is xs)
theorem it_keysI {K : PySem.W.Frag} {H : Hp} {ρ : List Addr} {d : Addr} {o : Obj} {xs : Ti} {kus : List (List Int × U)} (hd : H d = some (.frz o (TiD d xs))) (hq : ∀ p ∈ xs, SqT K H p.2.1 (p.1.map V.int)) (hk : xs.map (·.1) = kus.map (·.1)) :
    ItOk K ρ H (.seq (tupsU kus)) (ItkI d o xs) := by
  intro i ρ' H' μ' ex tx hm
  simp only [itemAt]
  have hl : xs.length = kus.length := by simpa using congrArg List.length hk
  have hd' := tx.2 _ _ _ hd
  by_cases hi : i < kus.length
  · have e : (tupsU kus)[i]? = some (.tup (kus[i].1.map U.int)) := by simp [tupsU, hi]
    rw [e]
    refine ⟨⟨hd', by omega⟩, ?_⟩
    rintro x H'' ⟨rfl, p, q1, rfl⟩
    have hx : i < xs.length := by omega
    have e1 : kus[i].1 = p.1 := by
      have e2 : (xs.map (·.1))[i]? = (kus.map (·.1))[i]? := by rw [hk]
      rw [List.getElem?_map, List.getElem?_map, q1, List.getElem?_eq_getElem hi] at e2
      exact (Option.some.inj e2).symm
    rw [e1]
    exact ⟨Stp.refl hm, .tup (tx.tv.seq (hq p (List.mem_of_getElem? q1))) (rep_is _)⟩
  · have e : (tupsU kus)[i]? = none := by simp [tupsU]; omega
    rw [e]
    exact ⟨hd', by omega⟩
theorem ci_keysT {tg e : Expr} {me : FE} (he : CE X W e me) : CI X W tg e (iKeysT me) := by
  intro ρ μ s σ H R hs hm h
  refine ⟨_, pi_keysI pe_w, ?_⟩
  refine he ρ μ s σ H _ hs hm (h.bind fun u μ1 x H1 ρ1 t1 r1 h1 => ?_)
  cases ek : fdtU μ1 u with
  | none => rw [ek] at h1; exact h1.elim
  | some kus =>
    rw [ek] at h1
    cases r1 with
    | ref hr =>
      obtain ⟨c, hc, rc⟩ := t1.mem.at hr
      simp only [fdtU, hc] at ek
      cases c with
      | fdt us =>
        cases ek
        obtain ⟨o, xs, q1, q0, q2, q3⟩ := rc
        exact ⟨_, o, xs, rfl, q1, h1.ok (Stp.refl t1.mem) (it_keysI q1 q0 q2)⟩
      | _ => cases ek
    | _ => cases ek
end
end Dg
/-! Dx: a dict display whose keys are tuples of ints. -/
namespace Dg
open PySem PySem.Spec PyProof.Rows L2
section
variable {prog : Program} {w : World} {T : Type} [DecidableEq T] {knd : HeapKind prog w T} {A : Around} {E : Value → Shared → Prop} {s : Shared} {env : Env}
theorem dictH_walk {keys : List (Option Expr)} {values : List Expr} {pos : Pos} {Q : Value → Shared → Prop} (hu : knd.room A)
    (hall : keys.all (·.isSome) = true) (hl : keys.length = values.length) (h0 : keys ≠ []) (hlen : keys.length ≤ 15)
    (h : wpAny (model prog w) A (evalPairs (pairTrees keys values env pos)) (fun vs s₁ => ∃ ps, CarriesH knd s₁.heap vs ps ∧ s₁.heap.DictOfH knd s.heap.objs.size [] ∧
      ∀ h' tk, h'.DictOfH knd s.heap.objs.size (storedAllH [] ps) → Heap.SameBut s.heap.objs.size s₁.heap h' → Q (.ref s.heap.objs.size) { s₁ with heap := h', toks := tk }) E
      { s with heap := s.heap.push { cls := .type "dict", data := .dict #[] } }) :
    wpAny (model prog w) A (eval (.Dict keys values pos) env) Q E s := by
  have hn := pairTrees_length keys values env pos hall hl
  have h0' : pairTrees keys values env pos ≠ [] := fun he => by
    rw [he] at hn
    exact h0 (List.length_eq_zero_iff.mp hn.symm)
  have hlen' : (pairTrees keys values env pos).length ≤ 15 := by rw [hn]; exact hlen
  rw [arm_eval_Dict, zip_pairTrees keys values env pos hall hl, dictDisplay_pairs (pairTrees keys values env pos) h0' (by omega)]
  exact wpAny_bind (wpAny_standAt (wpAny_bind (wpAny_subDictH (knd := knd) (Q := fun d s' => wpAny (model prog w) A (pure (Value.ref d)) Q E s') hu hlen'
    (wpAny_mono h (fun vs s₁ h₁ => by obtain ⟨ps, hc, hm, hq⟩ := h₁; exact ⟨ps, hc, hm, fun h' tk a b => wpAny_pure (hq h' tk a b)⟩) fun _ _ e => e))))
end
def mergeI (xs : Ti) (more : Ti) : Ti := more.foldl (fun acc p => putI acc p.1 p.2.1 p.2.2) xs
def mergeUI (kus more : KI) : KI := more.foldl (fun acc p => putUI acc p.1 p.2) kus
theorem PR.merge : ∀ {more : Ti} {rs : List (List Int × Addr × Value)} {xs : Ti} {ys : List (List Int × Addr × Value)}, PR more rs → PR xs ys → PR (mergeI xs more) (storedAllH ys rs) := by
  intro more rs xs ys r
  unfold PR at r
  induction r generalizing xs ys with
  | nil => intro q; exact q
  | @cons p q ps qs h t ih =>
    intro r0
    obtain ⟨e1, e2, e3⟩ := h
    have e : PR (putI xs p.1 p.2.1 p.2.2) (storedH ys q.1 q.2.1 q.2.2) := by
      rw [← e1, ← e2]
      exact r0.put p.1 p.2.1 e3
    exact ih e
theorem mergeI_len : ∀ (more xs : Ti), (mergeI xs more).length ≤ xs.length + more.length
  | [], xs => by show xs.length ≤ xs.length + 0; omega
  | p :: r, xs => by
    have h1 := mergeI_len r (putI xs p.1 p.2.1 p.2.2)
    have h2 := putI_len xs p.1 p.2.1 p.2.2
    show (mergeI (putI xs p.1 p.2.1 p.2.2) r).length ≤ _
    rw [List.length_cons]; omega
section
variable {X : Cx} {W : WX} {k : Nat}
theorem carriesI {pins : List (Addr × Obj)} {σ : L2.St} {H : Hp} {s : Shared} (I : Inv X pins σ H s) : ∀ {kvs : Ti} {ws : List (Value × Value)}, (∀ p ∈ kvs, SqT X.K H p.2.1 (p.1.map V.int)) → VV (kvs.map fun kv => (V.ref kv.2.1, kv.2.2)) ws →
    ∃ rs, CarriesH (tupleKind (intKind X.prog X.w)) s.heap ws rs ∧ PR kvs rs
  | [], _, _, r => by rw [List.map_nil] at r; cases r; exact ⟨[], True.intro, .nil⟩
  | p :: kvs, _, hq, r => by
    rw [List.map_cons] at r
    cases r with
    | @cons a b as bs h t =>
      obtain ⟨rs, c, q⟩ := carriesI I (fun p hp => hq p (by simp [hp])) t
      obtain ⟨b1, b2⟩ := b
      obtain ⟨h1, h2⟩ := h
      have e1 : b1 = Value.ref p.2.1 := h1
      exact ⟨(p.1, p.2.1, b2) :: rs, ⟨e1, rfl, tkey I (hq p (by simp)), c⟩, .cons ⟨rfl, rfl, h2⟩ q⟩
def tDispT (K : PySem.W.Frag) (trs : List (TE × TE)) : TE := fun σ H Q => ∀ p, H p = none → tPairs trs σ (upd H p (TiD p [])) fun ps H2 => H2 p = some (TiD p []) ∧ ∃ kvs : Ti, ps = kvs.map (fun kv => (V.ref kv.2.1, kv.2.2)) ∧ kvs.length ≤ 15 ∧ (∀ q ∈ kvs, SqT K H2 q.2.1 (q.1.map V.int)) ∧ Q (.ref p) (upd H2 p (TiD p (mergeI [] kvs)))
theorem pe_dispT {pos : Pos} {keys : List (Option Expr)} {values : List Expr} {trs : List (TE × TE)} (hu : X.A.units < cLine) (h : PPs X pos keys values trs) (hall : keys.all (·.isSome) = true) (hl : keys.length = values.length) (h0 : keys ≠ [])
    (h15 : keys.length ≤ 15) : PE X (.Dict keys values pos) (tDispT X.K trs) := by
  refine ⟨fun pins s σ H Q I q => ?_⟩
  have hn := I.hok.fresh (Nat.le_refl s.heap.objs.size)
  have I1 := I.laid (a := s.heap.objs.size) (o := TiD s.heap.objs.size []) (h' := s.heap.push { cls := .type "dict", data := .dict #[] }) (t' := s.toks) (fun _ _ q => Heap.get?_push_of_some _ q) (Nat.le_refl _) (ti_empty s.heap I.big)
  refine dictH_walk (knd := tupleKind (intKind X.prog X.w)) hu hall hl h0 h15 (thn (h.run pins _ σ _ _ I1 (q _ hn)) fun ws s2 ⟨ps, H2, I2, rel, e, kvs, ep, lk, hq, q2⟩ => ?_)
  subst ep
  obtain ⟨rs, c, rk⟩ := carriesI I2 hq rel
  obtain ⟨hd, z, ys, r0, dd⟩ := tdict I2 (a := s.heap.objs.size) (xs := []) ⟨e, fun p hp => by cases hp⟩
  cases r0
  refine ⟨rs, c, dd, fun h' tk dd' sb => ⟨.ref s.heap.objs.size, _, ?_, rfl, q2⟩⟩
  have hz : (mergeI [] kvs).length ≤ sizeLine := by
    have h1 := mergeI_len kvs []
    rw [List.length_nil] at h1
    rw [sizeLine_eq]; omega
  have ex : ∃ q, h'.get? s.heap.objs.size = some q := let ⟨q, _, _, hq, _⟩ := dd'; ⟨q, hq⟩
  exact d_write I2 (by rw [e]; exact True.intro) sb ex (ti_ok hd hz (PR.merge rk .nil) dd')
/-! ### {k: v, ..} -/
def fPairsT : List (FE × FE) → Slots → Mem → Res KI
  | [], _, μ => .ok [] μ
  | (k, v) :: r, s, μ => (k s μ).bind fun ku μ1 => (v s μ1).bind fun u μ2 => match tkeyU ku with
    | some key => (fPairsT r s μ2).bind fun kus μ3 => .ok ((key, u) :: kus) μ3
    | none => .bad
def relTi : RelT KI Ti := fun K H ρ a b => RepTi K H ρ a b
def fDispT (ms : List (FE × FE)) : FE := fun s μ => (fPairsT ms s (μ ++ [.dtt []])).bind fun kus μ1 => match μ1[μ.length]? with
  | some (.dtt []) => if kus.length ≤ 15 then .ok (.ref μ.length) (μ1.set μ.length (.dtt (mergeUI [] kus))) else .bad
  | _ => .bad
theorem repTi_nil {K : PySem.W.Frag} {H : Hp} {ρ : List Addr} : RepTi K H ρ [] [] := RepTi.of (fun p hp => by cases hp) rfl .nil
theorem repTi_cons {K : PySem.W.Frag} {H : Hp} {ρ : List Addr} {k : List Int} {b : Addr} {u : U} {v : V} {kus : KI} {xs : Ti} (hb : SqT K H b (k.map V.int)) (ru : RepV K H ρ u v) (r : RepTi K H ρ kus xs) : RepTi K H ρ ((k, u) :: kus) ((k, b, v) :: xs) := by
  obtain ⟨a1, a2, a3⟩ := r.to
  exact RepTi.of (fun p hp => by rcases List.mem_cons.mp hp with rfl | h; exact hb; exact a1 p h) (by simp [a2]) (.cons ru a3)
theorem RepTi.merge {K : PySem.W.Frag} {H : Hp} {ρ : List Addr} : ∀ {more : KI} {mv : Ti} {kus : KI} {kvs : Ti}, RepTi K H ρ more mv → RepTi K H ρ kus kvs → RepTi K H ρ (mergeUI kus more) (mergeI kvs mv)
  | [], mv, kus, kvs, h, g => by
    have e : mv = [] := by
      have := h.len
      exact List.length_eq_zero_iff.mp (by simpa using this)
    subst e
    exact g
  | (k, u) :: more, [], kus, kvs, h, g => by have := h.len; simp at this
  | (k, u) :: more, (k', b, v) :: mv, kus, kvs, h, g => by
    obtain ⟨a1, a2, a3⟩ := h.to
    simp only [List.map_cons, List.cons.injEq] at a2 a3
    obtain ⟨e1, a2⟩ := a2
    subst e1
    cases a3 with
    | cons r1 r2 =>
      show RepTi K H ρ (mergeUI (putUI kus k' u) more) (mergeI (putI kvs k' b v) mv)
      exact RepTi.merge (RepTi.of (fun p hp => a1 p (by simp [hp])) a2 r2) (g.put (a1 (k', b, v) (List.mem_cons_self ..)) r1)
theorem CP.pairsT {pos : Pos} {ks : List (Option Expr)} {vs : List Expr} {ms : List (FE × FE)} (c : CP X W ks vs ms) : ∃ trs : List (TE × TE), PPs X pos ks vs trs ∧ ∀ (ρ : List Addr) (μ : Mem) (s : Slots) (σ : L2.St) (H : Hp) (Q : List (V × V) → Hp → Prop), RepS X.K H ρ s σ → RepM X.K H ρ μ →
    Post X W σ relTi ρ H (fPairsT ms s μ) (fun kvs H3 => Q (kvs.map fun kv => (V.ref kv.2.1, kv.2.2)) H3) → tPairs trs σ H Q := by
  induction c with
  | nil => exact ⟨[], pps_nil, fun ρ μ s σ H Q hs hm h => h.ok (v := []) (Stp.refl hm) repTi_nil⟩
  | @cons k v mk mv ks vs ms hk hv r ih =>
    obtain ⟨trs, p, ih⟩ := ih
    refine ⟨(WE X k, WE X v) :: trs, pps_cons pe_w pe_w p, fun ρ μ s σ H Q hs hm h => ?_⟩
    refine hk ρ μ s σ H _ hs hm (h.bind fun ku μ1 x H1 ρ1 t1 r1 h1 => ?_)
    refine hv ρ1 μ1 s σ H1 _ (t1.s hs) t1.mem (h1.bind fun u μ2 y H2 ρ2 t2 r2 h2 => ?_)
    split at h2
    · rename_i key e
      obtain ⟨b, ex, hb⟩ := tkeyU_ok (t2.v r1) e
      subst ex
      refine ih ρ2 μ2 s σ H2 _ (t2.s (t1.s hs)) t2.mem (h2.bind (rel1 := relTi) fun kus μ3 kvs H3 ρ3 t3 r3 h3 => ?_)
      exact h3.ok (v := (key, b, y) :: kvs) (Stp.refl t3.mem) (repTi_cons (t3.tx.tv.seq hb) (t3.v r2) r3)
    · exact h2.elim
theorem ce_dispT {ks : List (Option Expr)} {vs : List Expr} {ms : List (FE × FE)} {pos : Pos} (G : Good X W (k + 40)) (c : CP X W ks vs ms) (hall : ks.all (·.isSome) = true := by rfl) (hl : ks.length = vs.length := by rfl) (h0 : ks ≠ [] := by exact List.cons_ne_nil _ _)
    (h15 : ks.length ≤ 15 := by decide) : CE X W (.Dict ks vs pos) (fDispT ms) := by
  intro ρ μ s σ H Q hs hm h
  obtain ⟨trs, p, run⟩ := c.pairsT (pos := pos)
  refine ⟨_, pe_dispT (by have := G.hu; omega) p hall hl h0 h15, fun q nq => ?_⟩
  have t0 := newTi hm nq
  refine run (ρ ++ [q]) (μ ++ [.dtt []]) s σ _ _ (t0.s hs) t0.mem ((Post.from' t0 h).bind (rel1 := relTi) fun kus μ1 kvs H1 ρ1 t1 r1 h1 => ?_)
  split at h1
  · rename_i e
    split at h1
    · rename_i hz
      have er : ρ1[μ.length]? = some q := t1.ext.get (by rw [← hm.len]; simp)
      obtain ⟨xs, a1, a2⟩ := dtt_of t1.mem er e
      have : xs = [] := by
        have := a2.len
        exact List.length_eq_zero_iff.mp (by simpa using this)
      subst this
      refine ⟨a1, kvs, rfl, by rw [r1.len]; exact hz, r1.to.1, ?_⟩
      exact h1.ok (putTi t1.mem er e (RepTi.merge r1 repTi_nil)) (.ref er)
    · exact h1.elim
  · exact h1.elim
end
end Dg
/-! Dy: methods of texts, str(..), int(text), displays with a starred part, {e!r}. -/
namespace Dg
open PySem PySem.Spec PyProof.Rows L2 RZ
section
variable {X : Cx} {W : WX} {k : Nat}
/-! ### methods of texts -/
def fMtS (g : U → List U → Mem → Res U) (o : FE) (a : FA) : FE := fun s μ => (o s μ).bind fun u μ1 => match u with
  | .str z => (a s μ1).bind fun us μ2 => g (.str z) us μ2
  | _ => .bad
theorem ce_mtS {id : String} {name : Str} {o e : Expr} {es : List Expr} {mo : FE} {ma : FA} {g : U → List U → Mem → Res U} {apos cpos : Pos} (hg : MtS X W id g) (ho : CE X W o mo) (ha : CA X W (e :: es) ma)
    (hp : ∀ {r : V → List V → Hp → VK → Prop} {to : TE} {t : TA}, MtR X id r → PE X o to → PA X (e :: es) t → PE X (.Call (.Attribute o name apos) (e :: es) [] cpos) (tBM X.K "str" r to t)) : CE X W (.Call (.Attribute o name apos) (e :: es) [] cpos) (fMtS g mo ma) := by
  intro ρ μ s σ H Q hs hm h
  refine ⟨_, hp mt_w pe_w pa_w, ?_⟩
  refine ho ρ μ s σ H _ hs hm (h.bind fun u μ1 x H1 ρ1 t1 r1 h1 => ?_)
  cases r1 with
  | str hz =>
    refine ⟨rfl, ?_⟩
    exact ha ρ1 μ1 s σ H1 _ (t1.s hs) t1.mem (h1.bind fun us μ2 vs H2 ρ2 t2 r2 h2 => hg ρ2 μ2 σ H2 _ us _ vs Q t2.mem (.str hz) r2 h2)
  | _ => exact h1.elim
theorem ce_mtS0 {id : String} {name : Str} {o : Expr} {mo : FE} {g : U → List U → Mem → Res U} {apos cpos : Pos} (hg : MtS X W id g) (ho : CE X W o mo)
    (hp : ∀ {r : V → List V → Hp → VK → Prop} {to : TE}, MtR X id r → PE X o to → PE X (.Call (.Attribute o name apos) [] [] cpos) (tBM0 X.K "str" r to)) : CE X W (.Call (.Attribute o name apos) [] [] cpos) (fMtS g mo aNil) := by
  intro ρ μ s σ H Q hs hm h
  refine ⟨_, hp mt_w pe_w, ?_⟩
  refine ho ρ μ s σ H _ hs hm (h.bind fun u μ1 x H1 ρ1 t1 r1 h1 => ?_)
  cases r1 with
  | str hz => exact ⟨rfl, hg ρ1 μ1 σ H1 _ [] _ [] Q t1.mem (.str hz) .nil h1⟩
  | _ => exact h1.elim
theorem newStrs {K : PySem.W.Frag} {H : Hp} {ρ : List Addr} {μ : Mem} {W : WX} {σ : L2.St} {Q : VK} {ys : List Str} {X : Cx} (hm : RepM X.K H ρ μ) (ok : ∀ y ∈ ys, PyData.strOk y = true) (h : Post X W σ relV ρ H (.ok (.ref μ.length) (μ ++ [.lst (ys.map U.str)])) Q) : rNewStrs ys H Q := by
  intro p np
  exact h.ok (newL hm np (RepVs.ofStrs ys ok)) (refN hm)
def gSplit (u : U) (us : List U) (μ : Mem) : Res U := match u, us with
  | .str a, [.str b] => if b.length ≠ 0 ∧ a.length + 2 ≤ lim ∧ (Txt.split a b).all PyData.strOk = true then .ok (.ref μ.length) (μ ++ [.lst ((Txt.split a b).map U.str)]) else .bad
  | .str a, [.str b, .int k] => if b.length ≠ 0 ∧ a.length + 2 ≤ lim ∧ (Txt.splitMax a b k).all PyData.strOk = true ∧ -(2 ^ 63) ≤ k ∧ k < 2 ^ 63 then .ok (.ref μ.length) (μ ++ [.lst ((Txt.splitMax a b k).map U.str)]) else .bad
  | _, _ => .bad
theorem gs_split : MtS X W "str.split" gSplit := by
  intro ρ μ σ H u us x vs Q hm ru r h
  unfold gSplit at h
  split at h
  · cases ru
    cases r with
    | cons r1 r2 =>
      cases r2
      cases r1
      split at h
      · rename_i hc
        obtain ⟨h1, h2, h3⟩ := hc
        refine ⟨_, mt_split, _, _, rfl, rfl, ?_, lim_le h2, newStrs (K := X.K) hm (fun y hy => List.all_eq_true.mp h3 y hy) h⟩
        exact beq_false_of_ne h1
      · exact h.elim
  · cases ru
    cases r with
    | cons r1 r2 =>
      cases r2 with
      | cons r3 r4 =>
        cases r4
        cases r1
        cases r3
        split at h
        · rename_i hc
          obtain ⟨h1, h2, h3, h4, h5⟩ := hc
          refine ⟨_, mt_splitMax, _, _, _, rfl, rfl, beq_false_of_ne h1, h4, h5, lim_le h2, newStrs (K := X.K) hm (fun y hy => List.all_eq_true.mp h3 y hy) h⟩
        · exact h.elim
  · exact h.elim
def gJoin (u : U) (us : List U) (μ : Mem) : Res U := match u, us with
  | .str a, [w] => match (seqU μ w).bind strsU with
    | some ys => if (ys.map (·.length)).sum + ys.length * a.length ≤ 16777216 ∧ PyData.strOk (Txt.join a ys) = true then .ok (.str (Txt.join a ys)) μ else .bad
    | none => .bad
  | _, _ => .bad
theorem gs_join : MtS X W "str.join" gJoin := by
  intro ρ μ σ H u us x vs Q hm ru r h
  unfold gJoin at h
  split at h
  · cases ru
    cases r with
    | cons r1 r2 =>
      cases r2
      split at h
      · rename_i ys e
        split at h
        · rename_i hc
          obtain ⟨us, e1, e2⟩ := Option.bind_eq_some_iff.mp e
          obtain ⟨p, vs, rfl, hp, r3⟩ := seqU_ok hm r1 e1
          rw [strsU_ok e2] at r3
          have ev := r3.strs
          rw [ev] at hp
          exact ⟨_, mt_join, _, p, ys, rfl, rfl, hp, hc.1, h.ok (Stp.refl hm) (.str hc.2)⟩
        · exact h.elim
      · exact h.elim
  · exact h.elim
def gUpper (u : U) (us : List U) (μ : Mem) : Res U := match u, us with
  | .str a, [] => if a.length ≤ 5592405 ∧ PyData.strOk (Txt.upper a) = true then .ok (.str (Txt.upper a)) μ else .bad
  | _, _ => .bad
theorem gs_upper : MtS X W "str.upper" gUpper := by
  intro ρ μ σ H u us x vs Q hm ru r h
  unfold gUpper at h
  split at h
  · cases ru
    cases r
    split at h
    · rename_i hc
      exact ⟨_, mt_upper, _, rfl, rfl, hc.1, h.ok (Stp.refl hm) (.str hc.2)⟩
    · exact h.elim
  · exact h.elim
def gFind (u : U) (us : List U) (μ : Mem) : Res U := match u, us with
  | .str a, [.str b] => .ok (.int (Txt.find a b)) μ
  | _, _ => .bad
theorem gs_find : MtS X W "str.find" gFind := by
  intro ρ μ σ H u us x vs Q hm ru r h
  unfold gFind at h
  split at h
  · cases ru
    cases r with
    | cons r1 r2 =>
      cases r2
      cases r1
      exact ⟨_, mt_find, _, _, rfl, rfl, h.ok (Stp.refl hm) .int⟩
  · exact h.elim
/-! ### str(x), int(text) -/
def bStr (us : List U) (μ : Mem) : Res U := match us with
  | [.int i] => if i.natAbs.log2 < 1920 ∧ PyData.strOk (toString i : Str) = true then .ok (.str (toString i)) μ else .bad
  | [.str a] => .ok (.str a) μ
  | _ => .bad
theorem cs_str : CallS X W (.type "str") bStr := by
  intro ρ μ σ H us vs Q hm r h
  unfold bStr at h
  split at h
  · cases r with
    | cons ru r0 =>
      cases r0; cases ru
      split at h
      · rename_i hc
        exact ⟨_, call_str_int, _, rfl, hc.1, h.ok (Stp.refl hm) (.str hc.2)⟩
      · exact h.elim
  · cases r with
    | cons ru r0 =>
      cases r0
      cases ru with
      | str hz => exact ⟨_, SkE.call_str_str, _, rfl, h.ok (Stp.refl hm) (.str hz)⟩
  · exact h.elim
def bIntT (us : List U) (μ : Mem) : Res U := match us with
  | [.str a] => match PySem.intText? a with
    | some n => if a.length ≤ 640 then .ok (.int n) μ else .bad
    | none => .bad
  | _ => .bad
theorem cs_intT : CallS X W (.type "int") bIntT := by
  intro ρ μ σ H us vs Q hm r h
  unfold bIntT at h
  split at h
  · cases r with
    | cons ru r0 =>
      cases r0; cases ru
      split at h
      · rename_i n e
        split at h
        · exact ⟨_, call_int_str, _, n, rfl, e, by assumption, h.ok (Stp.refl hm) .int⟩
        · exact h.elim
      · exact h.elim
  · exact h.elim
/-! ### displays with a starred part -/
def aStar (a : FE) (b : FA) : FA := fun s μ => (a s μ).bind fun u μ1 => match seqU μ1 u with
  | some us => (b s μ1).bind fun ws μ2 => .ok (us ++ ws) μ2
  | none => .bad
theorem ca_star {e : Expr} {es : List Expr} {ma : FE} {mb : FA} {p : Pos} (ha : CE X W e ma) (hb : CA X W es mb) (hs0 : starEach (.Starred e p :: es) X.env = (true, eval e X.env) :: starEach es X.env := by rfl) : CA X W (.Starred e p :: es) (aStar ma mb) := by
  intro ρ μ s σ H Q hs hm h
  refine ⟨_, StX.pa_star pe_w pa_w hs0, ?_⟩
  refine ha ρ μ s σ H _ hs hm (h.bind fun u μ1 x H1 ρ1 t1 r1 h1 => ?_)
  cases e1 : seqU μ1 u with
  | none => rw [e1] at h1; exact h1.elim
  | some us =>
    rw [e1] at h1
    obtain ⟨a, vs, rfl, hq, rr⟩ := seqU_ok t1.mem r1 e1
    refine ⟨a, vs, rfl, hq.elim .inr .inl, ?_⟩
    refine hb ρ1 μ1 s σ H1 _ (t1.s hs) t1.mem (Post.bind (rel2 := relVs) h1 fun ws μ2 ys H2 ρ2 t2 r2 h2 => ?_)
    exact h2.ok (Stp.refl t2.mem) ((t2.vs rr).append r2)
/-! ### {e!r} -/
def fFmtR (a : FE) : FE := fun s μ => (a s μ).bind fun u μ1 => match u with
  | .str y => if (reprText y).length ≤ lim ∧ PyData.strOk (reprText y) = true then .ok (.str (reprText y)) μ1 else .bad
  | _ => .bad
theorem ce_fmtR {e : Expr} {me : FE} {pos : Pos} (he : CE X W e me) : CE X W (.FormattedValue e 114 none pos) (fFmtR me) := by
  intro ρ μ s σ H Q hs hm h
  refine ⟨_, pe_fmtR pe_w, ?_⟩
  refine he ρ μ s σ H _ hs hm (h.bind fun u μ1 x H1 ρ1 t1 r1 h1 => ?_)
  cases u with
  | str y =>
    cases r1 with
    | str ok =>
      simp only at h1
      split at h1
      · rename_i hl
        exact .inl ⟨y, rfl, lim_le hl.1, h1.ok (Stp.refl t1.mem) (.str hl.2)⟩
      · exact h1.elim
  | _ => exact h1.elim
/-! ### a display of two where the second one asks the caught error -/
theorem at_two {i : Nat} {a : Addr} {e1 e2 : Expr} {m1 m2 : FE} (h1 : CE X W e1 m1) (h2 : CEat X W i a e2 m2) (hs1 : starEach [e1, e2] X.env = (false, eval e1 X.env) :: starEach [e2] X.env) (hs2 : starEach [e2] X.env = (false, eval e2 X.env) :: starEach [] X.env)
    (ρ : List Addr) (μ : Mem) (s : Slots) (σ : L2.St) (H : Hp) (Q : List V → Hp → Prop) (hi : σ[i]? = some (some (.ref a))) (hs : RepS X.K H ρ s σ) (hm : RepM X.K H ρ μ) (h : Post X W σ relVs ρ H (aCons m1 (aCons m2 aNil) s μ) Q) : WA X [e1, e2] σ H Q := by
  refine ⟨_, pa_cons pe_w (pa_cons pe_w pa_nil hs2) hs1, ?_⟩
  refine h1 ρ μ s σ H _ hs hm (h.bind fun u μ1 x H1 ρ1 t1 r1 h1 => ?_)
  have h1' : Post X W σ relVs ρ1 H1 (((m2 s μ1).bind fun u2 μ2 => .ok [u2] μ2).bind fun us μ2 => .ok (u :: us) μ2) Q := h1
  have e : (((m2 s μ1).bind fun u2 μ2 => (Res.ok [u2] μ2 : Res (List U))).bind fun us μ2 => .ok (u :: us) μ2) = (m2 s μ1).bind fun u2 μ2 => .ok [u, u2] μ2 := by cases m2 s μ1 <;> rfl
  rw [e] at h1'
  refine h2 ρ1 μ1 s σ H1 _ hi (t1.s hs) t1.mem (h1'.bind fun u2 μ2 y H2 ρ2 t2 r2 h2 => ?_)
  exact h2.ok (Stp.refl t2.mem) (.cons (t2.v r1) (.one r2))
theorem at_lst2 {i : Nat} {a : Addr} {e1 e2 : Expr} {m1 m2 : FE} {pos : Pos} (h1 : CE X W e1 m1) (h2 : CEat X W i a e2 m2) (hs1 : starEach [e1, e2] X.env = (false, eval e1 X.env) :: starEach [e2] X.env := by rfl) (hs2 : starEach [e2] X.env = (false, eval e2 X.env) :: starEach [] X.env := by rfl) :
    CEat X W i a (.List [e1, e2] pos) (fLst (aCons m1 (aCons m2 aNil))) := by
  intro ρ μ s σ H Q hi hs hm h
  refine ⟨_, pe_lst pa_w, ?_⟩
  refine at_two h1 h2 hs1 hs2 ρ μ s σ H _ hi hs hm (h.bind fun us μ1 vs H1 ρ1 t1 r1 h1 => ?_)
  split at h1
  · exact ⟨by rw [← RepVs.length r1]; exact lim_le (by assumption), fun p np => h1.ok (newL t1.mem np r1) (refN t1.mem)⟩
  · exact h1.elim
end
end Dg
/-! Ef: enumerate(tuple). -/
namespace PySem
open Sem (wp)
open AutoSeq1 (wpAny_loadPart')
theorem meets_enumerate_newT (l : Addr) (items : Array Value) (n : Nat) (dct : Option Addr) (sl : Array (Option Value)) :
    Meets (Builtin.«enumerate.__new__» ⟨[.type "enumerate", .ref l], []⟩) (fun _ R s => s.heap.get? l = some { cls := .type "tuple", dict := dct, data := .seq items n, slots := sl } ∧
      R (.ok (.ret (.ref (s.heap.push { cls := .type "tuple_iterator", data := .fields #[.ref l, .int 0 0] }).objs.size)))
        { s with heap := (s.heap.push { cls := .type "tuple_iterator", data := .fields #[.ref l, .int 0 0] }).push { cls := .type "enumerate", data := .fields #[.none, .bool false, .ref s.heap.objs.size, rawInt 0, .none, .none] } }) :=
  .of_wp fun prog w A R s h => by
    obtain ⟨hp, g, d, tk, os⟩ := s; obtain ⟨hl, h⟩ := h
    have hsub := sub_enumerate
    have hL : Heap.IsTuple (Shared.heap ⟨hp, g, d, tk, os⟩) l items := ⟨_, hl, rfl, n, rfl⟩
    wp_walk using wpAny_loadPart' hl
    refine wpAny_stack_any fun st => wpAny_pure ?_
    split
    · rename_i c _ _ _ _ _
      cases (c == Value.type "enumerate")
      · wp_walk using wpAny_loadPart' hl, wpAny_pyIter_tuple hL
        exact ⟨_, rfl, h⟩
      · wp_walk using wpAny_loadPart' hl, wpAny_pyIter_tuple hL
        exact ⟨_, rfl, h⟩
    · wp_walk using wpAny_loadPart' hl, wpAny_pyIter_tuple hL
      exact ⟨_, rfl, h⟩
section
variable {prog : Program} {w : World} {A : Around} {E : Value → Shared → Prop} {s : Shared}
theorem call_enumerate_tuple {l : Addr} {items : Array Value} {Q : Value → Shared → Prop} (hL : s.heap.IsTuple l items)
    (h : ∀ h', IsEnum h' (s.heap.objs.size + 1) s.heap.objs.size 0 .none → h'.IsTupleIter s.heap.objs.size l 0 → h'.objs.size = s.heap.objs.size + 2 →
      (∀ b o, s.heap.get? b = some o → h'.get? b = some o) → Q (.ref (s.heap.objs.size + 1)) { s with heap := h' }) :
    wpAny (model prog w) A (call (.type "enumerate") [.ref l]) Q E s := by
  obtain ⟨⟨c, dct, dt, sl⟩, hl, hc, n, hd⟩ := hL
  replace hc : c = .type "tuple" := hc
  replace hd : dt = .seq items n := hd
  subst hc hd
  refine callType_new F.called_enumerate (by decide) (F.typeCall_enumerate_1 _) (F.newCall_enumerate_1 _) (fun obj => F.args_object_init_2 obj _) F.entry_enumerate_new
    (meets_enumerate_newT l items n dct sl) ⟨hl, ?_⟩
  have hz : (s.heap.push { cls := .type "tuple_iterator", data := .fields #[.ref l, .int 0 0] }).objs.size = s.heap.objs.size + 1 := Heap.size_push ..
  show _ ∧ _
  rw [hz]
  have he : IsEnum ((s.heap.push { cls := .type "tuple_iterator", data := .fields #[.ref l, .int 0 0] }).push
      { cls := .type "enumerate", data := .fields #[.none, .bool false, .ref s.heap.objs.size, rawInt 0, .none, .none] }) (s.heap.objs.size + 1) s.heap.objs.size 0 .none := by
    have := Heap.get?_push_size (s.heap.push { cls := .type "tuple_iterator", data := .fields #[.ref l, .int 0 0] })
      (o := { cls := .type "enumerate", data := .fields #[.none, .bool false, .ref s.heap.objs.size, rawInt 0, .none, .none] }) rfl
    rw [hz] at this; exact this
  refine ⟨⟨_, he, rfl⟩, h _ he ⟨_, Heap.get?_push_of_some _ (Heap.get?_push_size _ rfl), rfl, rfl⟩ (by rw [Heap.size_push, hz]) fun b o x => Heap.get?_push_of_some _ (Heap.get?_push_of_some _ x)⟩
end
end PySem
namespace Dg
open PySem PySem.Spec PyProof.Rows L2
def IteT (K : PySem.W.Frag) (a : Addr) : It :=
  ⟨fun i H => ∃ (xs : List V) (x : V), SqT K H a xs ∧ xs[i]? = some x, fun i H v H' => ∃ T x, v = .ref T ∧ H T = none ∧ H' = upd H T (.tup [.int (i : Nat), x]) ∧ ∀ xs, SqT K H a xs → xs[i]? = some x, fun i H => ∃ xs : List V, SqT K H a xs ∧ xs.length ≤ i⟩
theorem turn_enumT {P : Program} {w : World} {K : PySem.W.Frag} {elts : List Expr} {kk : Nat} {tpos : Pos} {a e it : Addr} (hne : e ≠ it) (hea : e ≠ a) (hai : a ≠ it) :
    Turn P w K (.Tuple elts kk tpos) (IteT K a) [e, it] e (fun i h => (∃ old, IsEnum h e it ((i : Nat) : Int) old) ∧ h.IsTupleIter it a i) where
  mem := by simp
  obj := fun i h st b hb => by
    obtain ⟨⟨old, he⟩, ⟨o, ho, hc, hd⟩⟩ := st
    have e' : b = e ∨ b = it := by simpa using hb
    rcases e' with z | z
    · rw [z]; exact ⟨_, he, fun v q => nomatch q⟩
    · rw [z]; exact ⟨o, ho, fun v q => by rw [hd] at q; cases q⟩
  keep := fun i h h' st k => let ⟨⟨old, he⟩, hi⟩ := st; ⟨⟨old, k e (by simp) _ he⟩, hi.at fun o q => k it (by simp) o q⟩
  item := by
    intro X hP hw hK hc i pins s σ H E I hf st hg
    subst hP hw hK
    obtain ⟨⟨old, he⟩, hit⟩ := st
    obtain ⟨xs, x, hq, hx⟩ := hg
    obtain ⟨its, rv, p, hz⟩ := I.tuple hq
    obtain ⟨u, hu, ru⟩ := rv.get hx
    have hel : e < s.heap.objs.size := Heap.lt_size he
    have hil : it < s.heap.objs.size := by obtain ⟨_, q, _⟩ := id hit; exact Heap.lt_size q
    have lu : i < its.toArray.size := by simpa using (List.getElem?_eq_some_iff.mp hu).1
    have hh : X.A.in1.handled = none := I.ok.hd hc
    obtain ⟨m1, P1, S1, D1, _, _, l1, b1, c1, e1⟩ := drT (P := X.prog) (w := X.w) hh hai its.toArray i
    refine wpAny_pyNext_enum_itemC D1 he (b1 _ hit p) (l1 lu) hne (by simp [hne, hea]) fun u' h' tk hP ho k1 hT hsz hk => ?_
    have ex1 : u' = u := by
      have := c1 _ hP
      simp only [List.getElem?_toArray, hu] at this
      cases this; rfl
    subst ex1
    refine ⟨_, rfl, wpAny_letOwnedTupleGo_enum (s := { s with heap := h', toks := tk + 1 }) ho fun h'' he' sb => ?_⟩
    have hT2 : h''.get? s.heap.objs.size = some { cls := .type "tuple", data := .seq #[.int i tk, u'] } := (sb.2 _ (Nat.ne_of_gt hel)).trans hT
    have new : ObjOk X.prog X.w (upd H s.heap.objs.size (.tup [.int (i : Nat), x])) h'' s.heap.objs.size (.tup [.int (i : Nat), x]) :=
      ⟨by show 2 ≤ sizeLine; decide, [.int i tk, u'], .cons ⟨_, rfl⟩ (.cons ru .nil), ⟨_, hT2, rfl, _, rfl⟩⟩
    have I1 : Inv X pins σ (upd H s.heap.objs.size (.tup [.int (i : Nat), x])) { s with heap := h'', toks := tk + 1 } :=
      I.turnedNew (ch := [e, it]) (fun b ob hb q => (sb.2 b (fun z => hb (by simp [z]))).trans (hk b ob (fun z => hb (by simp [z])) (fun z => hb (by simp [z])) q)) hf (Nat.le_refl _) new
    refine ⟨.ref s.heap.objs.size, _, I1, rfl, ⟨_, x, rfl, I.hok.fresh (Nat.le_refl _), rfl, fun ys hy => by rw [I.tuple_inj hy hq]; exact hx⟩, ⟨⟨u', ?_⟩, (e1 _ lu k1).at fun o q => (sb.2 it (Ne.symm hne)).trans q⟩, fun b hb => ?_⟩
    · have e1 : ((i + 1 : Nat) : Int) = (i : Int) + 1 := by omega
      rw [e1]; exact he'
    · have hb' : b < s.heap.objs.size := by
        have e' : b = e ∨ b = it := by simpa using hb
        rcases e' with z | z
        · rw [z]; exact hel
        · rw [z]; exact hil
      rw [upd_ne (Nat.ne_of_lt hb')]
      exact (hf b hb).1
  done := by
    intro X hP hw hK hc i pins s σ H E I hf st hg
    subst hP hw hK
    obtain ⟨⟨old, he⟩, hit⟩ := st
    obtain ⟨xs, hq, hx⟩ := hg
    obtain ⟨its, rv, p, hz⟩ := I.tuple hq
    obtain ⟨f0, f1, f2, f3, f4, f5⟩ := hf it (by simp)
    have hl := rv.length
    have hh : X.A.in1.handled = none := I.ok.hd hc
    obtain ⟨m1, P1, S1, D1, a1, g1, _, b1, _⟩ := drT (P := X.prog) (w := X.w) hh hai its.toArray i
    have hs := b1 _ hit p
    rw [g1 (by simp; omega)] at hs
    exact wpAny_pyNext_enum_endD D1 he hs fun h' eb => ⟨rfl, I.turned (t' := s.toks) (fun b o hb q => eb b o hb q) f0 f1 f3 f4 f5⟩
  self := fun A i s Q E st h => let ⟨⟨_, he⟩, _⟩ := st; wpAny_pyIter_enum he h
def iEnumT (K : PySem.W.Frag) (ta : TA) : TI := fun σ H R => ta σ H fun vs H1 => ∃ a, vs = [.ref a] ∧ (((∃ xs, SqL K H1 a xs) ∧ R (Ite K a) H1) ∨ (∃ xs, SqT K H1 a xs) ∧ R (IteT K a) H1)
theorem pi_enumT {X : Cx} {e : Expr} {ta : TA} {p pos tpos : Pos} {elts : List Expr} {kk : Nat} (hg : Gl X "enumerate") (hm : X.mg "enumerate" = none) (ha : PA X [e] ta) (hs : starEach [e] X.env = [(false, eval e X.env)] := by rfl) :
    PI X (.Tuple elts kk tpos) (.Call (.Name "enumerate" p) [e] [] pos) (iEnumT X.K ta) := by
  refine ⟨fun pins s σ H R I h => ?_⟩
  refine Call_ (ld_blt I hg hm boot_enumerate (PyProof.Rows.callWith_type1 (thn (ha.run pos pins s σ H _ I h) fun us s1 ⟨vs, H1, I1, r1, q1⟩ => ?_) hs rfl))
  obtain ⟨a, ex, q⟩ := q1
  subst ex
  cases r1 with
  | cons r rr =>
    cases rr
    cases r
    rcases q with ⟨⟨xs, hq⟩, q⟩ | ⟨⟨xs, hq⟩, q⟩
    · obtain ⟨its, rv, p', hz⟩ := I1.list hq
      refine call_enumerate_list p'.isList fun h' he hit hsz hk => wpAny_pyIter_enum he ?_
      have I2 : Inv X pins σ H1 { s1 with heap := h' } := I1.kept (t' := s1.toks) hk
      refine ⟨s1.heap.objs.size + 1, [s1.heap.objs.size + 1, s1.heap.objs.size], _, _, H1, rfl, I2, turn_enum a (s1.heap.objs.size + 1) s1.heap.objs.size, ⟨⟨.none, he⟩, hit, Nat.succ_ne_self _⟩, fun b hb => ?_, q⟩
      have e' : b = s1.heap.objs.size + 1 ∨ b = s1.heap.objs.size := by simpa using hb
      have hle : s1.heap.objs.size ≤ b := by
        rcases e' with z | z
        · rw [z]; exact Nat.le_add_right _ _
        · rw [z]; exact Nat.le_refl _
      exact I1.fpOk hle (I1.hok.fresh hle)
    · obtain ⟨its, rv, p', hz⟩ := I1.tuple hq
      have la : a < s1.heap.objs.size := by obtain ⟨o, e, _⟩ := id p'; exact Heap.lt_size e
      refine call_enumerate_tuple p' fun h' he hit hsz hk => wpAny_pyIter_enum he ?_
      have I2 : Inv X pins σ H1 { s1 with heap := h' } := I1.kept (t' := s1.toks) hk
      refine ⟨s1.heap.objs.size + 1, [s1.heap.objs.size + 1, s1.heap.objs.size], _, _, H1, rfl, I2, turn_enumT (Nat.succ_ne_self _) (Nat.ne_of_gt (Nat.lt_succ_of_lt la)) (Nat.ne_of_lt la), ⟨⟨.none, he⟩, hit⟩, fun b hb => ?_, q⟩
      have e' : b = s1.heap.objs.size + 1 ∨ b = s1.heap.objs.size := by simpa using hb
      have hle : s1.heap.objs.size ≤ b := by
        rcases e' with z | z
        · rw [z]; exact Nat.le_add_right _ _
        · rw [z]; exact Nat.le_refl _
      exact I1.fpOk hle (I1.hok.fresh hle)
def enumL (us : List U) : List U := us.zipIdx.map fun p => .tup [.int (p.2 : Nat), p.1]
theorem it_enumT {K : PySem.W.Frag} {H : Hp} {ρ : List Addr} {a : Addr} {us : List U} {vs : List V} (hs : SqT K H a vs) (hr : RepVs K H ρ us vs) : ItOk K ρ H (.seq (enumL us)) (IteT K a) := by
  intro i ρ' H' μ' ex tx hm
  have hs' := tx.seq hs
  have hr' := hr.mono tx ex
  have e0 : (enumL us)[i]? = (us[i]?).map fun u => U.tup [.int (i : Nat), u] := by
    unfold enumL
    rw [List.getElem?_map, List.getElem?_zipIdx, Option.map_map, Nat.zero_add]
    rfl
  simp only [itemAt, e0]
  cases h : us[i]? with
  | none =>
    simp only [Option.map_none]
    exact ⟨vs, hs', by rw [← RepVs.length hr']; exact List.getElem?_eq_none_iff.mp h⟩
  | some u =>
    simp only [Option.map_some]
    obtain ⟨x, hx, rx⟩ := RepVs.get hr' h
    refine ⟨⟨vs, x, hs', hx⟩, ?_⟩
    rintro y H'' ⟨T, x', rfl, nT, rfl, hall⟩
    have e2 := hall vs hs'
    rw [hx] at e2
    cases e2
    exact ⟨Stp.temp hm nT, newT nT (.cons .int (.one rx))⟩
section
variable {X : Cx} {W : WX}
/-- enumerate(list or tuple) -/
def iEnumA (a : FE) : FI := fun s μ => (a s μ).bind fun u μ1 => match u with
  | .tup us => .ok (.seq (enumL us)) μ1
  | .ref r => match listAt μ1 r with
    | some _ => .ok (.enum r) μ1
    | none => .bad
  | _ => .bad
theorem ci_enumA {tg a : Expr} {ma : FE} {p pos : Pos} (ha : CE X W a ma)
    (hp : ∀ {ta : TA}, PA X [a] ta → PI X tg (.Call (.Name "enumerate" p) [a] [] pos) (iEnumT X.K ta)) (hs1 : starEach [a] X.env = (false, eval a X.env) :: starEach [] X.env := by rfl) :
    CI X W tg (.Call (.Name "enumerate" p) [a] [] pos) (iEnumA ma) := by
  intro ρ μ s σ H R hs hm h
  refine ⟨_, hp (pa_cons pe_w pa_nil hs1), ?_⟩
  refine ha ρ μ s σ H _ hs hm (h.bind fun u μ1 x H1 ρ1 t1 r1 h1 => ?_)
  split at h1
  · cases r1 with
    | tup b1 b2 => exact ⟨_, rfl, .inr ⟨⟨_, b1⟩, h1.ok (Stp.refl t1.mem) (it_enumT b1 b2)⟩⟩
  · cases r1 with
    | ref b1 =>
      split at h1
      · rename_i e2
        obtain ⟨xs, q2, _⟩ := listAt_ok t1.mem b1 e2
        exact ⟨_, rfl, .inl ⟨⟨_, q2⟩, h1.ok (Stp.refl t1.mem) (it_enum b1)⟩⟩
      · exact h1.elim
  · exact h1.elim
end
end Dg
/-! Eg: zip of a list and a tuple; a, *b = a list. -/
namespace PySem
section
variable {prog : Program} {w : World} {A : Around} {E : Value → Shared → Prop} {s : Shared}
theorem thn_ {α : Type} {m : Sem α} {Q Q' : α → Shared → Prop} (h : wpAny (model prog w) A m Q E s) (k : ∀ a s, Q a s → Q' a s) : wpAny (model prog w) A m Q' E s := wpAny_mono h k fun _ _ e => e
/-- a list's iterator from the second item on -/
theorem walks_tail (hh : A.handled = none) (I ax : Addr) (hne : ax ≠ I) (items : Array Value) (hz : 1 ≤ items.size) :
    Walks prog w A I [I, ax] [I] (items.size - 1) (fun i v => items[i + 1]? = some v) (fun i h => h.IsListIter I ax (i + 1) ∧ h.IsList ax items) where
  sub := fun b hb => by simp at hb; simp [hb]
  frame := fun _ _ _ st hk => ⟨st.1.at fun o e => hk I (by simp) o e, st.2.at fun o e => hk ax (by simp) o e⟩
  item := fun i s Q E hi st hQ => by
    have hi' : i + 1 < items.size := by omega
    refine wpAny_pyNext_list_item st.1 st.2 (x := items[i + 1]) (by simp [hi']) fun h' hit' hs' => ?_
    exact hQ _ h' s.toks (by simp [hi']) ⟨hit', st.2.extBut hs'.extBut hne⟩ fun b o hb e => hs'.extBut b o (fun h => hb (by simp [h])) e
  done := fun s Q E st hQ => wpAny_pyNext_list_end hh st.1 st.2 (by simp; omega) fun h' he' => hQ h' s.toks fun b o hb e => he' b o (fun h => hb (by simp [h])) e
  self := fun _ _ _ _ st hQ => wpAny_pyIter_listiter st.1 hQ
theorem items_tail {P : Nat → Value → Prop} {acc : Array Value} {x : Value} {xs : List Value} (h : ItemsOf (fun i v => (x :: xs).toArray[i + 1]? = some v) acc ((x :: xs).toArray.size - 1)) : acc.toList = xs := by
  obtain ⟨hz, ha⟩ := h
  refine List.ext_getElem? fun i => ?_
  have hz' : acc.toList.length = xs.length := by simpa using hz
  by_cases hi : i < xs.length
  · have hi2 : i < acc.toList.length := by omega
    have h1 : acc[i]? = some (acc.toList[i]) := by simp
    have := ha i _ h1
    simp only [List.getElem?_toArray, List.getElem?_cons_succ] at this
    rw [this, List.getElem?_eq_getElem hi2]
  · rw [List.getElem?_eq_none (by omega), List.getElem?_eq_none (by omega)]
/-- a, *b = list -/
theorem unpack_star {l : Addr} {x : Value} {xs : List Value} {targets : List (Bool × (Value → Sem Unit))} {Q : Unit → Shared → Prop} (hh : A.handled = none) (hl : s.heap.IsList l (x :: xs).toArray) (hn : targets.length = 2) (hstar : targets.findIdx? (·.1) = some 1) (hz : xs.length + 1 ≤ sizeLine)
    (h : ∀ h' tk, (∀ b o, s.heap.get? b = some o → h'.get? b = some o) → wpAny (model prog w) A (newList xs) (fun v s2 => wpAny (model prog w) A (assignInOrder (targets.map (·.2)) [x, v]) Q E s2) E { s with heap := h', toks := tk }) :
    wpAny (model prog w) A (unpack (.ref l) targets) Q E s := by
  unfold unpack
  rw [hn, hstar]
  refine wpAny_bind (wpAny_holding ?_)
  have hlt : l ≠ s.heap.objs.size := by obtain ⟨o, ho, _⟩ := id hl; exact Nat.ne_of_lt (Heap.lt_size ho)
  unfold unpackItems
  refine wpAny_bind ?_
  unfold notIterableAtAll
  refine wpAny_bind (wpAny_specialOf hl.typeIs F.slot_list_iter.lookup ?_)
  refine wpAny_pure ?_
  simp only [Bool.false_eq_true, if_false]
  refine wpAny_bind (wpAny_holding (wpAny_pyIter_list hl ?_))
  refine wpAny_bind (wpAny_holding ?_)
  unfold draw
  have hit0 : (s.heap.push { cls := .type "list_iterator", data := .fields #[.ref l, .int 0 0] }).IsListIter s.heap.objs.size l 0 := ⟨_, Heap.get?_push_size _ rfl, rfl, rfl⟩
  refine wpAny_bind (wpAny_pyNext_list_item (x := x) hit0 (hl.push _) (by simp) fun h1 hit1 sb1 => ?_)
  show wpAny _ _ (holding [x] (draw (.ref s.heap.objs.size) 0) >>= _) _ _ _
  refine wpAny_bind (wpAny_holding (wpAny_pure (wpAny_pure ?_)))
  rw [if_neg (by simp)]
  have hl1 : h1.IsList l (x :: xs).toArray := (hl.push _).extBut sb1.extBut hlt
  have W := walks_tail (prog := prog) (w := w) (A := A.in1) hh s.heap.objs.size l hlt (x :: xs).toArray (by simp)
  have keep : ∀ b o, s.heap.get? b = some o → h1.get? b = some o := fun b o e => sb1.extBut b o (Nat.ne_of_lt (Heap.lt_size e)) (Heap.get?_push_of_some _ e)
  have lsz : s.heap.objs.size < h1.objs.size := by obtain ⟨o, ho, _⟩ := id hit1; exact Heap.lt_size ho
  refine wpAny_bind (wpAny_holding (wpAny_collect_iter (s := { s with heap := h1 }) (.inr (.inr (.inl rfl))) W.toS (fun _ _ st => let ⟨⟨o, ho, hc, _⟩, _⟩ := st; ⟨o, ho, hc⟩) ⟨hit1, hl1⟩ (fun b hb => ?_) (by simp) (fun s' acc mv ia => ?_) (by simp; omega)))
  · simp only [List.mem_cons, List.not_mem_nil, or_false] at hb
    rcases hb with rfl | rfl
    · exact lsz
    · obtain ⟨o, ho, _⟩ := id hl1; exact Heap.lt_size ho
  · rw [items_tail (P := fun _ _ => True) ia]
    show wpAny _ _ (if xs.length < 2 - 1 - 1 then _ else _) _ _ _
    rw [if_neg (by simp)]
    have e1 : xs.take (xs.length - (2 - 1 - 1)) = xs := by simp
    have e2 : xs.drop (xs.length - (2 - 1 - 1)) = [] := by simp
    rw [e1, e2]
    have es : s' = { s with heap := s'.heap, toks := s'.toks } := by
      obtain ⟨hp, g, d, tk, os⟩ := s'
      have a1 := mv.gens
      have a2 := mv.drawn
      have a3 := mv.os
      simp only at a1 a2 a3
      subst a1 a2 a3
      rfl
    have hk : ∀ b o, s.heap.get? b = some o → s'.heap.get? b = some o := fun b o e => mv.heap b o (by simp; exact Nat.ne_of_lt (Heap.lt_size e)) (keep b o e)
    rw [es]
    refine wpAny_bind (thn_ (h s'.heap s'.toks hk) fun v s2 q => ?_)
    exact wpAny_pure (by simpa using q)
end
end PySem
namespace Dg
open PySem PySem.Spec PyProof.Rows L2 RZ
def ItzW (K : PySem.W.Frag) (ta la : Addr) : It where
  go := fun n H => ∃ (us ws : List V) (p q : V), (SqL K H ta us ∧ us[n]? = some p) ∧ SqT K H la ws ∧ ws[n]? = some q
  yld := fun n H v H' => ∃ c p q, (v = .ref c ∧ H c = none ∧ H' = upd H c (.tup [p, q])) ∧ (∀ us, SqL K H ta us → us[n]? = some p) ∧ (∀ ws, SqT K H la ws → ws[n]? = some q)
  stop := fun n H => ∃ us ws : List V, (SqL K H ta us ∧ SqT K H la ws) ∧ (us.length ≤ n ∨ ws.length ≤ n)
section
variable {P : Program} {w : World} {A : Around}
/-- where the zip stands -/
def ZwSt (z ti to i1 i2 a b : Addr) (n : Nat) (h : Heap) : Prop := (IsZip h z ti to .none ∧ IsTupOf2 h ti (.ref i1) (.ref i2)) ∧ (∃ p q, IsTupOf2 h to p q) ∧ h.IsListIter i1 a n ∧ h.IsTupleIter i2 b n
theorem turn_zipW {K : PySem.W.Frag} {es : List Expr} {kk : Nat} {tp : Pos} {a b z ti to i1 i2 : Addr} (S : ZipSep2 z ti to i1 i2 [i1, a] [i2, b]) (ne1 : a ≠ i1) (ne2 : b ≠ i2) :
    Turn P w K (.Tuple es kk tp) (ItzW K a b) [z, ti, to, i1, i2] z (ZwSt z ti to i1 i2 a b) where
  mem := List.mem_cons_self
  obj := by
    rintro n h ⟨⟨s1, s2⟩, ⟨p, q, s3⟩, ⟨o1, e1, _, d1⟩, ⟨o2, e2, _, d2⟩⟩ c hc
    simp only [List.mem_cons, List.not_mem_nil, or_false] at hc
    rcases hc with rfl | rfl | rfl | rfl | rfl
    · exact ⟨_, s1, fun v h => nomatch h⟩
    · exact ⟨_, s2, fun v h => nomatch h⟩
    · exact ⟨_, s3, fun v h => nomatch h⟩
    · exact ⟨o1, e1, fun v h => by rw [d1] at h; cases h⟩
    · exact ⟨o2, e2, fun v h => by rw [d2] at h; cases h⟩
  keep := by
    rintro n h h' ⟨⟨s1, s2⟩, ⟨p, q, s3⟩, s4, s5⟩ k
    exact ⟨⟨k z (by simp) _ s1, k ti (by simp) _ s2⟩, ⟨p, q, k to (by simp) _ s3⟩, s4.at fun o e => k i1 (by simp) o e, s5.at fun o e => k i2 (by simp) o e⟩
  item := by
    intro X hP hw hK hc n pins s σ H E I hf st hg
    subst hP hw hK
    obtain ⟨⟨s1, s2⟩, ⟨p0, q0, s3⟩, s4, s5⟩ := st
    obtain ⟨us, ws, p, q, ⟨qu, hp⟩, qw, hq⟩ := hg
    obtain ⟨its, rv, pl, _⟩ := I.list qu
    obtain ⟨itw, rw', pt, _⟩ := I.tuple qw
    obtain ⟨u, hu, ru⟩ := rv.get hp
    obtain ⟨w2, hw2, rw2⟩ := rw'.get hq
    have lu : n < its.toArray.size := by simpa using (List.getElem?_eq_some_iff.mp hu).1
    have lw : n < itw.toArray.size := by simpa using (List.getElem?_eq_some_iff.mp hw2).1
    have hh : X.A.in1.handled = none := I.ok.hd hc
    obtain ⟨m1, P1, S1, D1, _, _, l1, b1, c1, e1⟩ := drL (P := X.prog) (w := X.w) hh ne1 its.toArray n
    obtain ⟨m2, P2, S2, D2, _, _, l2, b2, c2, e2⟩ := drT (P := X.prog) (w := X.w) hh ne2 itw.toArray n
    have hzl : z < s.heap.objs.size := Heap.lt_size s1
    refine wpAny_pyNext_zipD2_item S D1 D2 s1 s2 s3 (b1 _ s4 pl.isList) (b2 _ s5 pt) (l1 lu) (l2 lw) fun x1 x2 h' tk y1 y2 z' to' k1 k2 hT hsz hk => ?_
    have ex1 : x1 = u := by
      have := c1 _ y1
      simp only [List.getElem?_toArray, hu] at this
      cases this; rfl
    have ex2 : x2 = w2 := by
      have := c2 _ y2
      simp only [List.getElem?_toArray, hw2] at this
      cases this; rfl
    subst ex1 ex2
    refine ⟨_, rfl, wpAny_letOwnedTupleGo_zip (s := { s with heap := h', toks := tk }) z' fun h2 z2 sb => ?_⟩
    have hT2 : IsTupOf2 h2 s.heap.objs.size x1 x2 := (sb.2 _ (Nat.ne_of_gt hzl)).trans hT
    have nw : ObjOk X.prog X.w (upd H s.heap.objs.size (.tup [p, q])) h2 s.heap.objs.size (.tup [p, q]) := ⟨by show 2 ≤ sizeLine; decide, [x1, x2], .cons ru (.cons rw2 .nil), ⟨_, hT2, rfl, _, rfl⟩⟩
    have kk : ∀ c o, c ∉ [z, ti, to, i1, i2] → s.heap.get? c = some o → h2.get? c = some o := fun c o nb e => by
      simp only [List.mem_cons, List.not_mem_nil, or_false, not_or] at nb
      exact (sb.2 _ nb.1).trans (hk c o nb.1 nb.2.2.1 nb.2.2.2.1 nb.2.2.2.2 e)
    have I1 : Inv X pins σ (upd H s.heap.objs.size (.tup [p, q])) { s with heap := h2, toks := tk } := I.turnedNew kk hf (Nat.le_refl _) nw
    refine ⟨.ref s.heap.objs.size, _, I1, rfl, ⟨_, p, q, ⟨rfl, I.hok.fresh (Nat.le_refl _), rfl⟩, fun l hl => by rw [I.list_inj hl qu]; exact hp, fun l hl => by rw [I.tuple_inj hl qw]; exact hq⟩, ?_, fun c hcm => ?_⟩
    · exact ⟨⟨z2, (sb.2 _ S.TIz).trans (hk _ _ S.TIz S.TITO S.TIi1 S.TIi2 s2)⟩, ⟨x1, x2, (sb.2 _ S.TOz).trans to'⟩, (e1 _ lu k1).at fun o e => (sb.2 _ S.zi1.symm).trans e, (e2 _ lw k2).at fun o e => (sb.2 _ S.zi2.symm).trans e⟩
    · have hlt : c < s.heap.objs.size := by
        simp only [List.mem_cons, List.not_mem_nil, or_false] at hcm
        rcases hcm with rfl | rfl | rfl | rfl | rfl
        · exact hzl
        · exact Heap.lt_size s2
        · exact Heap.lt_size s3
        · obtain ⟨_, g, _⟩ := s4; exact Heap.lt_size g
        · obtain ⟨_, g, _⟩ := s5; exact Heap.lt_size g
      rw [upd_ne (Nat.ne_of_lt hlt)]
      exact (hf c hcm).1
  done := by
    intro X hP hw hK hc n pins s σ H E I hf st hg
    subst hP hw hK
    obtain ⟨⟨s1, s2⟩, ⟨p0, q0, s3⟩, s4, s5⟩ := st
    obtain ⟨us, ws, ⟨qu, qw⟩, hend⟩ := hg
    obtain ⟨its, rv, pl, _⟩ := I.list qu
    obtain ⟨itw, rw', pt, _⟩ := I.tuple qw
    have hh : X.A.in1.handled = none := I.ok.hd hc
    obtain ⟨m1, P1, S1, D1, a1, f1, _, b1, _⟩ := drL (P := X.prog) (w := X.w) hh ne1 its.toArray n
    obtain ⟨m2, P2, S2, D2, a2, f2, _, b2, _⟩ := drT (P := X.prog) (w := X.w) hh ne2 itw.toArray n
    have n1 := rv.length
    have n2 := rw'.length
    have he : n = m1 ∨ n = m2 := hend.elim (fun h => .inl (f1 (by simp; omega))) (fun h => .inr (f2 (by simp; omega)))
    refine wpAny_pyNext_zipD2_end S D1 D2 s1 s2 s3 (b1 _ s4 pl.isList) (b2 _ s5 pt) a1 a2 he fun h' tk hk => ⟨rfl, I.turnedL (t' := tk) (ch := [z, ti, to, i1, i2]) (fun c o nb e => ?_) hf⟩
    simp only [List.mem_cons, List.not_mem_nil, or_false, not_or] at nb
    exact hk c o nb.1 nb.2.2.1 nb.2.2.2.1 nb.2.2.2.2 e
  self := fun A n s Q E st q => wpAny_pyIter_zip st.1.1 q
end
def iZipWA (K : PySem.W.Frag) (ta : TA) : TI := fun σ H R => ta σ H fun vs H1 => ∃ a b us ws, vs = [.ref a, .ref b] ∧ (SqL K H1 a us ∧ SqT K H1 b ws) ∧ R (ItzW K a b) H1
theorem pi_zipW {X : Cx} {e1 e2 : Expr} {ta : TA} {p pos tp : Pos} {es : List Expr} {kk : Nat} (gz : Gl X "zip") (mz : X.mg "zip" = none) (pa : PA X [e1, e2] ta)
    (st : starEach [e1, e2] X.env = (false, eval e1 X.env) :: starEach [e2] X.env := by rfl) (bk : (backTo pos (starEach [e2] X.env)).any (·.1) = false := by rfl) : PI X (.Tuple es kk tp) (.Call (.Name "zip" p) [e1, e2] [] pos) (iZipWA X.K ta) := by
  refine ⟨fun pins s σ H R I h => Call_ (ld_blt I gz mz PyProof.Rows.boot_zip (PyProof.Rows.callWith_type1 (thn (pa.run pos pins s σ H _ I h) ?_) st bk))⟩
  rintro us s1 ⟨vs, H1, I1, r1, a, b, ps, qs, rfl, ⟨hp, hq⟩, hR⟩
  cases r1 with
  | cons ra rr =>
    cases rr with
    | cons rb rz =>
      cases rz; cases ra; cases rb
      obtain ⟨its, rv, pl, _⟩ := I1.list hp
      obtain ⟨itw, rw', pt, _⟩ := I1.tuple hq
      have la : a < s1.heap.objs.size := pl.lt
      have lb : b < s1.heap.objs.size := by obtain ⟨o, e, _⟩ := id pt; exact Heap.lt_size e
      refine zip_begins2 (begins_list a its.toArray) (begins_tuple b itw.toArray) pl.isList pt fun h' s1' s2' s3' g1 g2 hz hk => wpAny_pyIter_zip s1' ?_
      have I2 : Inv X pins σ H1 { s1 with heap := h' } := I1.kept (t' := s1.toks) hk
      have fresh : ∀ c, c ∈ [s1.heap.objs.size + 4, s1.heap.objs.size + 2, s1.heap.objs.size + 3, s1.heap.objs.size, s1.heap.objs.size + 1] → FpOk X pins H1 c := fun c hc => by
        have le : s1.heap.objs.size ≤ c := by
          simp only [List.mem_cons, List.not_mem_nil, or_false] at hc
          rcases hc with h | h | h | h | h <;> (rw [h]; first | exact Nat.le_refl _ | exact Nat.le_add_right _ _)
        exact I1.fpOk le (I1.hok.fresh le)
      exact ⟨_, _, _, _, H1, rfl, I2, turn_zipW (zip_sep2 (fp1 := [a]) (fp2 := [b]) (fun c hc => by rw [List.mem_singleton.mp hc]; exact la) (fun c hc => by rw [List.mem_singleton.mp hc]; exact lb)) (Nat.ne_of_lt la) (Nat.ne_of_lt (Nat.lt_succ_of_lt lb)), ⟨⟨s1', s2'⟩, ⟨_, _, s3'⟩, ⟨_, g1, rfl, rfl⟩, ⟨_, g2, rfl, rfl⟩⟩, fresh, hR⟩
theorem it_zipW {K : PySem.W.Frag} {H : Hp} {ρ : List Addr} {a b : Addr} {us : List U} {vs : List V} {r : Nat} (h2 : ρ[r]? = some a) (hs : SqT K H b vs) (hr : RepVs K H ρ us vs) : ItOk K ρ H (.zipQ r us) (ItzW K a b) := by
  intro i ρ' H' μ' ex tx hm
  simp only [itemAt]
  have hs' := tx.seq hs
  have hr' := hr.mono tx ex
  cases e2 : listAt μ' r with
  | none => trivial
  | some ws =>
    obtain ⟨xs, q2, rr2⟩ := listAt_ok hm (ex.get h2) e2
    simp only
    cases ew : ws[i]? with
    | none =>
      refine ⟨xs, vs, ⟨q2, hs'⟩, .inl ?_⟩
      rw [← rr2.length]
      exact List.getElem?_eq_none_iff.mp ew
    | some w =>
      cases eu : us[i]? with
      | none =>
        refine ⟨xs, vs, ⟨q2, hs'⟩, .inr ?_⟩
        rw [← hr'.length]
        exact List.getElem?_eq_none_iff.mp eu
      | some u =>
        obtain ⟨v, q3, r3⟩ := hr'.get eu
        obtain ⟨v2, q4, r4⟩ := rr2.get ew
        refine ⟨⟨xs, vs, v2, v, ⟨q2, q4⟩, hs', q3⟩, fun x H'' y => ?_⟩
        obtain ⟨c, x1, y1, ⟨rfl, nT, rfl⟩, f1, f2⟩ := y
        have g1 := f1 xs q2
        rw [q4] at g1
        cases g1
        have g2 := f2 vs hs'
        rw [q3] at g2
        cases g2
        exact ⟨Stp.temp hm nT, newT nT (.cons r4 (.one r3))⟩
section
variable {X : Cx} {W : WX}
/-- zip of a list and a tuple -/
def iZipW (a b : FE) : FI := fun s μ => (a s μ).bind fun u μ1 => (b s μ1).bind fun w μ2 => match u, w with
  | .ref r, .tup us => match listAt μ2 r with
    | some _ => .ok (.zipQ r us) μ2
    | none => .bad
  | _, _ => .bad
theorem ci_zipW {tg a b : Expr} {ma mb : FE} {p pos : Pos} (ha : CE X W a ma) (hb : CE X W b mb)
    (hp : ∀ {ta : TA}, PA X [a, b] ta → PI X tg (.Call (.Name "zip" p) [a, b] [] pos) (iZipWA X.K ta)) (hs1 : starEach [a, b] X.env = (false, eval a X.env) :: starEach [b] X.env := by rfl) (hs2 : starEach [b] X.env = (false, eval b X.env) :: starEach [] X.env := by rfl) :
    CI X W tg (.Call (.Name "zip" p) [a, b] [] pos) (iZipW ma mb) := by
  intro ρ μ s σ H R hs hm h
  refine ⟨_, hp (pa_cons pe_w (pa_cons pe_w pa_nil hs2) hs1), ?_⟩
  refine ha ρ μ s σ H _ hs hm (h.bind fun u μ1 x H1 ρ1 t1 r1 h1 => ?_)
  refine hb ρ1 μ1 s σ H1 _ (t1.s hs) t1.mem (h1.bind fun w μ2 y H2 ρ2 t2 r2 h2 => ?_)
  have r1' := t2.v r1
  split at h2
  · cases r2 with
    | tup a1 a2 => cases r1' with
      | ref b1 =>
        split at h2
        · rename_i e2
          obtain ⟨xs, q2, _⟩ := listAt_ok t2.mem b1 e2
          exact ⟨_, _, _, _, rfl, ⟨q2, a1⟩, h2.ok (Stp.refl t2.mem) (it_zipW b1 a1 a2)⟩
        · exact h2.elim
  · exact h2.elim
end
section
variable {X : Cx} {W : WX}
def gStar (K : PySem.W.Frag) (t : TGs) : TG := fun v σ H Q => ∃ a x xs, v = .ref a ∧ SqL K H a (x :: xs) ∧ ∀ q, H q = none → t [x, .ref q] σ (upd H q (.lst xs)) Q
theorem pg_star {es es' : List Expr} {k : Nat} {pos : Pos} {t : TGs} (hc : X.calm = true) (h : PGs X es' t) (he : (assignEach es X.env).map (·.2) = (assignEach es' X.env).map (·.2) := by rfl) (hn : (assignEach es X.env).length = 2 := by rfl) (hst : (assignEach es X.env).findIdx? (·.1) = some 1 := by rfl) : PG X (.Tuple es k pos) (gStar X.K t) := by
  refine ⟨fun pins s σ H v u Q I r hw => ?_⟩
  obtain ⟨a, x, xs, e1, hq, hw⟩ := hw
  subst e1
  cases r
  obtain ⟨its, rv, pl, hz⟩ := I.list hq
  cases rv with
  | @cons _ x' _ its' rx rv =>
    have hl := pl.isList
    have hlen : its'.length + 1 ≤ sizeLine := by
      have := rv.length
      simp at hz ⊢
      omega
    show wpAny _ _ (assign (.Tuple es k pos) X.env (.ref a)) _ _ s
    rw [assign_Tuple]
    refine wpAny_bind (wpAny_standAt (unpack_star (x := x') (xs := its') (I.ok.hd hc) hl hn hst hlen fun h' tk hk => ?_))
    have I1 : Inv X pins σ H { s with heap := h', toks := tk } := I.kept (t' := tk) hk
    refine wpAny_newList ?_ (by omega)
    have hf : H h'.objs.size = none := I1.hok.fresh (Nat.le_refl _)
    have I2 : Inv X pins σ (upd H h'.objs.size (.lst xs)) { s with heap := h'.push { cls := .type "list", data := .seq its'.toArray }, toks := tk } := by
      refine I1.laid (t' := tk) (fun b u e => Heap.get?_push_of_some _ e) (Nat.le_refl _) ?_
      exact ⟨by have := rv.length; omega, its', 0, rv, Heap.get?_push_size _ rfl⟩
    rw [he]
    exact h.run pins _ σ _ [x, .ref h'.objs.size] _ Q I2 (.cons rx (.cons rfl .nil)) (hw _ hf)
/-- a, *b = a list: the slots i and j -/
def sStar (i j : Nat) (a : FE) : FS := fun s μ => ofR (a s μ) s fun u μ1 => match lstU μ1 u with
  | some (x :: xs) => .nx (setAll [i, j] [x, .ref μ1.length] s) (μ1 ++ [.lst xs])
  | _ => .bad
theorem cs_star {e1 e2 : Expr} {k i j : Nat} {e : Expr} {p1 : Pos} {me : FE} {pos pos' : Pos} (hc : X.calm = true) (he : CE X W e me) (hg : CGs X [e1, e2] [i, j])
    (hp : ∀ {te : TE} {gt : TG}, PE X e te → PG X (.Tuple [e1, .Starred e2 p1] k pos') gt → PS X (.Assign [.Tuple [e1, .Starred e2 p1] k pos'] e pos) (tAsg te gt))
    (he' : (assignEach [e1, .Starred e2 p1] X.env).map (·.2) = (assignEach [e1, e2] X.env).map (·.2) := by rfl) (hn : (assignEach [e1, .Starred e2 p1] X.env).length = 2 := by rfl) (hst : (assignEach [e1, .Starred e2 p1] X.env).findIdx? (·.1) = some 1 := by rfl) : CS X W (.Assign [.Tuple [e1, .Starred e2 p1] k pos'] e pos) (sStar i j me) := by
  intro ρ μ s σ H D hs hm h
  refine ⟨_, hp pe_w (pg_star hc pgs_w he' hn hst), ?_⟩
  refine he ρ μ s σ H _ hs hm (PostS.bind hs h fun u μ1 x H1 ρ1 t1 r1 h1 => ?_)
  cases el : lstU μ1 u with
  | none => rw [el] at h1; exact h1.elim
  | some us =>
    rw [el] at h1
    cases us with
    | nil => exact h1.elim
    | cons y ys =>
      obtain ⟨a, vs, rfl, hq, rr⟩ := lstU_ok t1.mem r1 el
      cases rr with
      | @cons _ _ v' vs' ry rys =>
        refine ⟨a, v', vs', rfl, hq, fun p np => ?_⟩
        have tn := newL t1.mem np rys
        refine hg (ρ1 ++ [p]) s σ (upd H1 p (.lst vs')) [y, .ref μ1.length] [v', .ref p] _ (tn.s (t1.s hs)) (.cons (tn.v ry) (.one (refN t1.mem))) rfl fun σ' hs' _ => ?_
        exact h1 σ' _ _ tn hs'
end
end Dg
namespace Lw
open PySem PySem.Spec PyProof.Rows L2 RZ Dg
/-! ### the text by places -/
def top (i : Nat) : Stmt := PySem.Challenge.pw_doppelganger_k88_commands_read.main.body.getD i (.Pass ⟨0, 0, 0, 0⟩)
abbrev s_is_letter : Stmt := top 3
abbrev N_is_letter : List Str := ["sign"]
theorem sc_is_letter : FnScope N_is_letter ["sign"] (defScope s_is_letter) := ⟨rfl, rfl, rfl, by decide +kernel, rfl, by decide +kernel, by decide +kernel⟩
abbrev s_is_name : Stmt := top 4
abbrev N_is_name : List Str := ["text", "sign"]
theorem sc_is_name : FnScope N_is_name ["text"] (defScope s_is_name) := ⟨rfl, rfl, rfl, by decide +kernel, rfl, by decide +kernel, by decide +kernel⟩
abbrev s_is_number : Stmt := top 9
abbrev N_is_number : List Str := ["word", "sign"]
theorem sc_is_number : FnScope N_is_number ["word"] (defScope s_is_number) := ⟨rfl, rfl, rfl, by decide +kernel, rfl, by decide +kernel, by decide +kernel⟩
abbrev s_fits_field : Stmt := top 10
abbrev N_fits_field : List Str := ["word", "field"]
theorem sc_fits_field : FnScope N_fits_field ["word", "field"] (defScope s_fits_field) := ⟨rfl, rfl, rfl, by decide +kernel, rfl, by decide +kernel, by decide +kernel⟩
abbrev s_read_with_text : Stmt := top 11
abbrev N_read_with_text : List Str := ["line", "parts"]
theorem sc_read_with_text : FnScope N_read_with_text ["line"] (defScope s_read_with_text) := ⟨rfl, rfl, rfl, by decide +kernel, rfl, by decide +kernel, by decide +kernel⟩
abbrev s_read_command : Stmt := top 12
abbrev N_read_command : List Str := ["line", "first", "words", "fields", "word", "field"]
theorem sc_read_command : FnScope N_read_command ["line"] (defScope s_read_command) := ⟨rfl, rfl, rfl, by decide +kernel, rfl, by decide +kernel, by decide +kernel⟩
abbrev s__law_row : Stmt := top 14
abbrev N__law_row : List Str := ["script", "row", "k", "cell", "turn", "mixed"]
theorem sc__law_row : FnScope N__law_row ["script"] (defScope s__law_row) := ⟨rfl, rfl, rfl, by decide +kernel, rfl, by decide +kernel, by decide +kernel⟩
abbrev s__law_at : Stmt := top 15
abbrev N__law_at : List Str := ["row", "at"]
theorem sc__law_at : FnScope N__law_at ["row", "at"] (defScope s__law_at) := ⟨rfl, rfl, rfl, by decide +kernel, rfl, by decide +kernel, by decide +kernel⟩
abbrev s__law_name : Stmt := top 16
abbrev N__law_name : List Str := ["number", "signs", "name", "k"]
theorem sc__law_name : FnScope N__law_name ["number"] (defScope s__law_name) := ⟨rfl, rfl, rfl, by decide +kernel, rfl, by decide +kernel, by decide +kernel⟩
abbrev s__law_lines : Stmt := top 17
abbrev N__law_lines : List Str := ["row", "one", "two", "three", "small", "other", "text", "lines"]
theorem sc__law_lines : FnScope N__law_lines ["row"] (defScope s__law_lines) := ⟨rfl, rfl, rfl, by decide +kernel, rfl, by decide +kernel, by decide +kernel⟩
abbrev s__law_text : Stmt := top 18
abbrev N__law_text : List Str := ["parts", "part"]
theorem sc__law_text : FnScope N__law_text ["parts"] (defScope s__law_text) := ⟨rfl, rfl, rfl, by decide +kernel, rfl, by decide +kernel, by decide +kernel⟩
abbrev s__law_spoilt : Stmt := top 19
abbrev N__law_spoilt : List Str := ["parts", "text", "word", "found", "rest", "number", "name"]
theorem sc__law_spoilt : FnScope N__law_spoilt ["parts", "text"] (defScope s__law_spoilt) := ⟨rfl, rfl, rfl, by decide +kernel, rfl, by decide +kernel, by decide +kernel⟩
abbrev s_law : Stmt := top 20
abbrev N_law : List Str := ["script", "row", "parts", "text", "told", "k", "bad"]
theorem sc_law : FnScope N_law ["script"] (defScope s_law) := ⟨rfl, rfl, rfl, by decide +kernel, rfl, by decide +kernel, by decide +kernel⟩
def tab_FORMS : List (Str × U) := [("show", (.tup [(.str "piece")])), ("fill", (.tup [(.str "piece"), (.str "piece"), (.str "made")])), ("run", (.tup [(.str "piece")])), ("same", (.tup [(.str "piece"), (.str "piece")])), ("differ", (.tup [(.str "piece"), (.str "piece")])), ("witness", (.tup [(.str "piece"), (.str "piece"), (.str "made")])), ("certify", (.tup [(.str "piece"), (.str "piece")])), ("twin", (.tup [(.str "module"), (.str "module")])), ("rule", (.tup [(.str "piece"), (.str "piece")])), ("apply", (.tup [(.str "number"), (.str "piece"), (.str "number"), (.str "made")])), ("simplify", (.tup [(.str "piece"), (.str "made")])), ("code", (.tup [(.str "piece")])), ("attack", (.tup [(.str "piece"), (.str "piece")]))]
/-! ### the mirrors -/
abbrev Calls := Nat → List U → Mem → Res U
def b_is_letter (C : Calls) : FS :=
    (sRet (fChain uLe uLe (fC (.str "a")) (fVar 0) (fC (.str "z"))))
def b_is_name (C : Calls) : FS :=
    (sSeq (sIf (tOr' (tNt (tstB (fChain uLe uLe (fC (.int 1)) (fCall bLen (aCons (fVar 0) aNil)) (fC (.int 4))))) (tstB (fOp uIn (fVar 0) (fC (.tup [(.str "skip"), (.str "stop"), (.str "if"), (.str "new"), (.str "proc"), (.str "exit"), (.str "do"), (.str "com"), (.str "exp"), (.str "val")]))))) (sRet (fC (.bl false))) sNext)
    (sRet (fCall bAll (aCons (fLc (iSeq (fVar 0)) [1] (.one 1) tAll (fDef 1 (C 0) (aCons (fVar 1) aNil))) aNil))))
def b_is_number (C : Calls) : FS :=
    (sSeq (sIf (tOr' (tNt (tstB (fChain uLe uLe (fC (.int 1)) (fCall bLen (aCons (fVar 0) aNil)) (fC (.int 3))))) (tNt (tst (fCall bAll (aCons (fLc (iSeq (fVar 0)) [1] (.one 1) tAll (fChain uLe uLe (fC (.str "0")) (fVar 1) (fC (.str "9")))) aNil))))) (sRet (fC (.bl false))) sNext)
    (sRet (fOr (fOp uEq (fVar 0) (fC (.str "0"))) (fOp uNe (fOp ixU (fVar 0) (fC (.int 0))) (fC (.str "0"))))))
def b_fits_field (C : Calls) : FS :=
    (sRet (fIf (tstB (fOp uEq (fVar 1) (fC (.str "number")))) (fDef 1 (C 2) (aCons (fVar 0) aNil)) (fDef 1 (C 1) (aCons (fVar 0) aNil))))
def b_read_with_text (C : Calls) : FS :=
    (sSeq (sAsg (.one 1) (fMtS gSplit (fVar 0) (aCons (fC (.str " ")) (aCons (fC (.int 3)) aNil))))
    (sSeq (sIf (tOr' (tstB (fOp uNe (fCall bLen (aCons (fVar 1) aNil)) (fC (.int 4)))) (tOr' (tNt (tst (fDef 1 (C 1) (aCons (fOp ixU (fVar 1) (fC (.int 1))) aNil)))) (tstB (fOp uNe (fOp ixU (fVar 1) (fC (.int 2))) (fC (.str "=")))))) (sRet (fC .non)) sNext)
    (sRet (fTup (aCons (fOp ixU (fVar 1) (fC (.int 0))) (aCons (fOp ixU (fVar 1) (fC (.int 1))) (aCons (fOp ixU (fVar 1) (fC (.int 3))) aNil)))))))
def b_read_command (C : Calls) : FS :=
    (sSeq (sIf (tstB (fOp uEq (fVar 0) (fC (.str "")))) (sRet (fTup aNil)) sNext)
    (sSeq (sStar 1 2 (fMtS gSplit (fVar 0) (aCons (fC (.str " ")) aNil)))
    (sSeq (sIf (tstB (fOp uIn (fVar 1) (fC (.tup [(.str "let"), (.str "module")])))) (sRet (fDef 1 (C 4) (aCons (fVar 0) aNil))) sNext)
    (sSeq (sIf (tOr' (tKNin ["show", "fill", "run", "same", "differ", "witness", "certify", "twin", "rule", "apply", "simplify", "code", "attack"] (fVar 1)) (tstB (fOp uNe (fCall bLen (aCons (fVar 2) aNil)) (fCall bLen (aCons (fKGet tab_FORMS (fVar 1)) aNil))))) (sRet (fC .non)) sNext)
    (sSeq (sAsg (.one 3) (fKGet tab_FORMS (fVar 1)))
    (sSeq (sIf (tNt (tst (fCall bAll (aCons (fLc (iZipW (fVar 2) (fVar 3)) [4, 5] (.tup [4, 5]) tAll (fDef 2 (C 3) (aCons (fVar 4) (aCons (fVar 5) aNil)))) aNil)))) (sRet (fC .non)) sNext)
    (sRet (fTup (aCons (fVar 1) (aStar (fLc (iZipW (fVar 2) (fVar 3)) [4, 5] (.tup [4, 5]) tAll (fIf (tstB (fOp uEq (fVar 5) (fC (.str "number")))) (fCall bIntT (aCons (fVar 4) aNil)) (fVar 4))) aNil))))))))))
def b__law_row (C : Calls) : FS :=
    (sSeq (sAsg (.one 1) (fLst aNil))
    (sSeq (sFor (iRg1 (fCall bLen (aCons (fVar 0) aNil))) (.one 2) (sSeq (sAsg (.one 3) (fCall bAbs (aCons (fCall bInt (aCons (fOp ixU (fVar 0) (fVar 2)) aNil)) aNil)))
    (sIf (tstB (fOp uGeX (fVar 3) (fOp uPow (fC (.int 10)) (fC (.int 18))))) (sFor (iRg1 (fC (.int 40))) (.one 4) (sIf (tstB (fOp uGt (fVar 3) (fC (.int 0)))) (sSeq (sExpr (fMtL gAppend (fVar 1) (aCons (fOp uMod (fCall bInt (aCons (fVar 3) aNil)) (fC (.int 1009))) aNil)))
    (sAsg (.one 3) (fOp uFdiv (fVar 3) (fC (.int 1009))))) sNext)) (sSeq (sAsg (.one 5) (fOp uMod (fCall bInt (aCons (fOp uAdd (fOp uAdd (fOp uMul (fVar 3) (fC (.int 48271))) (fOp uMul (fVar 2) (fC (.int 69621)))) (fC (.int 12345))) aNil)) (fC (.int 2147483647))))
    (sFor (iRg1 (fC (.int 6))) (.one 4) (sSeq (sAsg (.one 5) (fOp uMod (fCall bInt (aCons (fOp uAdd (fOp uAdd (fOp uMul (fVar 5) (fC (.int 16807))) (fOp uMul (fC (.int 11)) (fVar 4))) (fC (.int 1))) aNil)) (fC (.int 2147483647))))
    (sExpr (fMtL gAppend (fVar 1) (aCons (fOp uMod (fCall bInt (aCons (fOp uFdiv (fVar 5) (fC (.int 7))) aNil)) (fC (.int 1009))) aNil)))))))))
    (sRet (fVar 1))))
def b__law_at (C : Calls) : FS :=
    (sSeq (sIf (tstB (fChain uLe uLt (fC (.int 0)) (fVar 1) (fCall bLen (aCons (fVar 0) aNil)))) (sRet (fOp ixU (fVar 0) (fVar 1))) sNext)
    (sRet (fC (.int 0))))
def b__law_name (C : Calls) : FS :=
    (sSeq (sAsg (.one 1) (fC (.str "abcdefghijklmnqrtuvwyz")))
    (sSeq (sAsg (.one 2) (fC (.str "")))
    (sSeq (sFor (iRg1 (fOp uAdd (fC (.int 1)) (fOp uMod (fCall bInt (aCons (fVar 0) aNil)) (fC (.int 4))))) (.one 3) (sAsg (.one 2) (fOp uAdd (fVar 2) (fOp ixU (fVar 1) (fOp uMod (fCall bInt (aCons (fOp uAdd (fOp uAdd (fOp uMul (fVar 0) (fC (.int 7))) (fOp uMul (fOp uMul (fVar 3) (fVar 3)) (fC (.int 5)))) (fVar 3)) aNil)) (fC (.int 22)))))))
    (sSeq (sIf (tstB (fOp uIn (fVar 2) (fLst (aCons (fC (.str "if")) (aCons (fC (.str "new")) (aCons (fC (.str "do")) (aCons (fC (.str "val")) (aCons (fC (.str "com")) (aCons (fC (.str "exp")) (aCons (fC (.str "skip")) (aCons (fC (.str "stop")) (aCons (fC (.str "exit")) (aCons (fC (.str "proc")) aNil))))))))))))) (sRet (fC (.str "a"))) sNext)
    (sRet (fVar 2))))))
def b__law_lines (C : Calls) : FS :=
    (sSeq (sAsg (.one 1) (fDef 1 (C 8) (aCons (fDef 2 (C 7) (aCons (fVar 0) (aCons (fC (.int 1)) aNil))) aNil)))
    (sSeq (sAsg (.one 2) (fDef 1 (C 8) (aCons (fDef 2 (C 7) (aCons (fVar 0) (aCons (fC (.int 2)) aNil))) aNil)))
    (sSeq (sAsg (.one 3) (fDef 1 (C 8) (aCons (fDef 2 (C 7) (aCons (fVar 0) (aCons (fC (.int 3)) aNil))) aNil)))
    (sSeq (sAsg (.one 4) (fOp uMod (fCall bInt (aCons (fDef 2 (C 7) (aCons (fVar 0) (aCons (fC (.int 4)) aNil))) aNil)) (fC (.int 1000))))
    (sSeq (sAsg (.one 5) (fOp ixU (fLst (aCons (fC (.int 0)) (aCons (fC (.int 7)) (aCons (fC (.int 30)) (aCons (fC (.int 999)) aNil))))) (fOp uMod (fCall bInt (aCons (fDef 2 (C 7) (aCons (fVar 0) (aCons (fC (.int 5)) aNil))) aNil)) (fC (.int 4)))))
    (sSeq (sAsg (.one 6) (fOp ixU (fLst (aCons (fC (.str "|- com : skip")) (aCons (fC (.str "")) (aCons (fC (.str " ")) (aCons (fC (.str "p : com |- com :  p")) (aCons (fC (.str "x  = y")) aNil)))))) (fOp uMod (fCall bInt (aCons (fDef 2 (C 7) (aCons (fVar 0) (aCons (fC (.int 6)) aNil))) aNil)) (fC (.int 5)))))
    (sSeq (sAsg (.one 7) (fLst (aCons (fTup (aCons (fC (.str "let")) (aCons (fVar 1) (aCons (fVar 6) aNil)))) (aCons (fTup (aCons (fC (.str "module")) (aCons (fVar 2) (aCons (fVar 6) aNil)))) (aCons (fTup (aCons (fC (.str "show")) (aCons (fVar 1) aNil))) (aCons (fTup (aCons (fC (.str "run")) (aCons (fVar 1) aNil))) (aCons (fTup (aCons (fC (.str "code")) (aCons (fVar 2) aNil))) (aCons (fTup (aCons (fC (.str "fill")) (aCons (fVar 1) (aCons (fVar 2) (aCons (fVar 3) aNil))))) aNil))))))))
    (sSeq (sAsg (.one 7) (fOp uAdd (fVar 7) (fLst (aCons (fTup (aCons (fC (.str "witness")) (aCons (fVar 1) (aCons (fVar 2) (aCons (fVar 3) aNil))))) (aCons (fTup (aCons (fC (.str "same")) (aCons (fVar 1) (aCons (fVar 2) aNil)))) (aCons (fTup (aCons (fC (.str "differ")) (aCons (fVar 1) (aCons (fVar 2) aNil)))) (aCons (fTup (aCons (fC (.str "certify")) (aCons (fVar 2) (aCons (fVar 1) aNil)))) aNil)))))))
    (sSeq (sAsg (.one 7) (fOp uAdd (fVar 7) (fLst (aCons (fTup (aCons (fC (.str "twin")) (aCons (fVar 1) (aCons (fVar 2) aNil)))) (aCons (fTup (aCons (fC (.str "rule")) (aCons (fVar 1) (aCons (fVar 3) aNil)))) (aCons (fTup (aCons (fC (.str "simplify")) (aCons (fVar 1) (aCons (fVar 2) aNil)))) (aCons (fTup (aCons (fC (.str "attack")) (aCons (fVar 3) (aCons (fVar 2) aNil)))) aNil)))))))
    (sRet (fOp uAdd (fVar 7) (fLst (aCons (fTup (aCons (fC (.str "apply")) (aCons (fVar 4) (aCons (fVar 1) (aCons (fVar 5) (aCons (fVar 2) aNil)))))) aNil)))))))))))))
def b__law_text (C : Calls) : FS :=
    (sSeq (sIf (tstB (fOp uIn (fOp ixU (fVar 0) (fC (.int 0))) (fLst (aCons (fC (.str "let")) (aCons (fC (.str "module")) aNil))))) (sRet (fOp uAdd (fOp uAdd (fOp uAdd (fOp uAdd (fOp ixU (fVar 0) (fC (.int 0))) (fC (.str " "))) (fOp ixU (fVar 0) (fC (.int 1)))) (fC (.str " = "))) (fOp ixU (fVar 0) (fC (.int 2))))) sNext)
    (sRet (fMtS gJoin (fC (.str " ")) (aCons (fLc (iSeq (fVar 0)) [1] (.one 1) tAll (fCall bStr (aCons (fVar 1) aNil))) aNil))))
def b__law_spoilt (C : Calls) : FS :=
    (sSeq (sAsg (.one 2) (fOp ixU (fVar 0) (fC (.int 0))))
    (sSeq (sAsg (.one 3) (fLst (aCons (fOp uAdd (fC (.str " ")) (fVar 1)) (aCons (fOp uAdd (fMtS gUpper (fVar 2) aNil) (fSl (fVar 1) (oSome (fCall bLen (aCons (fVar 2) aNil))) oNone)) (aCons (fOp uAdd (fOp uAdd (fVar 2) (fC (.str "s"))) (fSl (fVar 1) (oSome (fCall bLen (aCons (fVar 2) aNil))) oNone)) (aCons (fVar 2) (aCons (fOp uAdd (fOp uAdd (fVar 2) (fC (.str " "))) (fSl (fVar 1) (oSome (fCall bLen (aCons (fVar 2) aNil))) oNone)) aNil)))))))
    (sSeq (sIf (tstB (fOp uIn (fVar 2) (fLst (aCons (fC (.str "let")) (aCons (fC (.str "module")) aNil))))) (sSeq (sAsg (.one 4) (fSl (fVar 1) (oSome (fOp uAdd (fOp uAdd (fCall bLen (aCons (fVar 2) aNil)) (fC (.int 1))) (fCall bLen (aCons (fOp ixU (fVar 0) (fC (.int 1))) aNil)))) oNone))
    (sSeq (sAsg (.one 3) (fOp uAdd (fVar 3) (fLst (aCons (fOp uAdd (fOp uAdd (fOp uAdd (fVar 2) (fC (.str " "))) (fOp ixU (fVar 0) (fC (.int 1)))) (fC (.str " ="))) (aCons (fOp uAdd (fOp uAdd (fOp uAdd (fOp uAdd (fVar 2) (fC (.str " "))) (fOp ixU (fVar 0) (fC (.int 1)))) (fC (.str "="))) (fOp ixU (fVar 0) (fC (.int 2)))) (aCons (fOp uAdd (fOp uAdd (fOp uAdd (fOp uAdd (fVar 2) (fC (.str " "))) (fOp ixU (fVar 0) (fC (.int 1)))) (fC (.str " "))) (fOp ixU (fVar 0) (fC (.int 1)))) aNil))))))
    (sRet (fOp uAdd (fVar 3) (fLc (iSeq (fLst (aCons (fC (.str "abcde")) (aCons (fC (.str "Ab")) (aCons (fC (.str "a1")) (aCons (fC (.str "")) (aCons (fC (.str "skip")) (aCons (fC (.str "exp")) aNil)))))))) [6] (.one 6) tAll (fOp uAdd (fOp uAdd (fOp uAdd (fVar 2) (fC (.str " "))) (fVar 6)) (fVar 4))))))) sNext)
    (sSeq (sAsg (.one 3) (fOp uAdd (fVar 3) (fLst (aCons (fOp uAdd (fVar 1) (fC (.str " "))) (aCons (fOp uAdd (fVar 1) (fC (.str " a"))) (aCons (fOp uAdd (fVar 1) (fC (.str " 1"))) aNil))))))
    (sSeq (sIf (tstB (fOp uNe (fVar 2) (fC (.str "apply")))) (sRet (fOp uAdd (fVar 3) (fLc (iSeq (fLst (aCons (fC (.str "abcde")) (aCons (fC (.str "A")) (aCons (fC (.str "1")) (aCons (fC (.str "")) (aCons (fC (.str "if")) (aCons (fC (.str "val")) aNil)))))))) [6] (.one 6) tAll (fOp uAdd (fOp uAdd (fOp uAdd (fVar 2) (fC (.str " "))) (fVar 6)) (fSl (fVar 1) (oSome (fOp uAdd (fOp uAdd (fCall bLen (aCons (fVar 2) aNil)) (fC (.int 1))) (fCall bLen (aCons (fOp ixU (fVar 0) (fC (.int 1))) aNil)))) oNone))))) sNext)
    (sSeq (sFor (iSeq (fLst (aCons (fC (.str "1000")) (aCons (fC (.str "01")) (aCons (fC (.str "-1")) (aCons (fC (.str "")) (aCons (fC (.str "x")) (aCons (fC (.str "+1")) aNil)))))))) (.one 5) (sSeq (sExpr (fMtL gAppend (fVar 3) (aCons (fOp uAdd (fOp uAdd (fOp uAdd (fOp uAdd (fOp uAdd (fOp uAdd (fOp uAdd (fOp uAdd (fVar 2) (fC (.str " "))) (fVar 5)) (fC (.str " "))) (fOp ixU (fVar 0) (fC (.int 2)))) (fC (.str " "))) (fCall bStr (aCons (fOp ixU (fVar 0) (fC (.int 3))) aNil))) (fC (.str " "))) (fOp ixU (fVar 0) (fC (.int 4)))) aNil)))
    (sExpr (fMtL gAppend (fVar 3) (aCons (fOp uAdd (fOp uAdd (fOp uAdd (fOp uAdd (fOp uAdd (fOp uAdd (fVar 2) (fC (.str " 1 "))) (fOp ixU (fVar 0) (fC (.int 2)))) (fC (.str " "))) (fVar 5)) (fC (.str " "))) (fOp ixU (fVar 0) (fC (.int 4)))) aNil)))))
    (sRet (fVar 3))))))))
def b_law (C : Calls) : FS :=
    (sSeq (sAsg (.one 1) (fDef 1 (C 6) (aCons (fVar 0) aNil)))
    (sSeq (sIf (tstB (fOp uNe (fDef 1 (C 5) (aCons (fC (.str "")) aNil)) (fTup aNil))) (sRet (fC (.bl false))) sNext)
    (sSeq (sFor (iSeq (fDef 1 (C 9) (aCons (fVar 1) aNil))) (.one 2) (sSeq (sAsg (.one 3) (fDef 1 (C 10) (aCons (fVar 2) aNil)))
    (sSeq (sAsg (.one 4) (fDef 1 (C 5) (aCons (fVar 3) aNil)))
    (sSeq (sIf (tOr' (tNt (tst (fIsi "tuple" (fVar 4)))) (tstB (fOp uNe (fVar 4) (fVar 2)))) (sRet (fC (.bl false))) sNext)
    (sSeq (sFor (iRg1 (fCall bLen (aCons (fVar 2) aNil))) (.one 5) (sIf (tOr' (tst (fIsi "bool" (fOp ixU (fVar 4) (fVar 5)))) (tstB (fOp uNe (fIsi "int" (fOp ixU (fVar 4) (fVar 5))) (fIsi "int" (fOp ixU (fVar 2) (fVar 5)))))) (sRet (fC (.bl false))) sNext))
    (sFor (iSeq (fDef 2 (C 11) (aCons (fVar 2) (aCons (fVar 3) aNil)))) (.one 6) (sIf (tstB (fOp uNotN (fDef 1 (C 5) (aCons (fVar 6) aNil)) (fC .non))) (sRet (fC (.bl false))) sNext)))))))
    (sRet (fAnd (fOp uIsN (fDef 1 (C 5) (aCons (fC (.str " ")) aNil)) (fC .non)) (fAnd (fOp uIsN (fDef 1 (C 5) (aCons (fC (.str "tell a")) aNil)) (fC .non)) (fOp uIsN (fDef 1 (C 5) (aCons (fC (.str "apply a")) aNil)) (fC .non))))))))
def call : Nat → Calls
  | 0 => fun _ _ _ => .bad
  | k + 1 => fun i => match i with
    | 0 => runDef 1 (b_is_letter (call k))
    | 1 => runDef 2 (b_is_name (call k))
    | 2 => runDef 2 (b_is_number (call k))
    | 3 => runDef 2 (b_fits_field (call k))
    | 4 => runDef 2 (b_read_with_text (call k))
    | 5 => runDef 6 (b_read_command (call k))
    | 6 => runDef 6 (b__law_row (call k))
    | 7 => runDef 2 (b__law_at (call k))
    | 8 => runDef 4 (b__law_name (call k))
    | 9 => runDef 8 (b__law_lines (call k))
    | 10 => runDef 2 (b__law_text (call k))
    | 11 => runDef 7 (b__law_spoilt (call k))
    | 12 => runDef 7 (b_law (call k))
    | _ => fun _ _ => .bad
theorem call_is_letter (k : Nat) : call (k + 1) 0 = runDef 1 (b_is_letter (call k)) := rfl
theorem call_is_name (k : Nat) : call (k + 1) 1 = runDef 2 (b_is_name (call k)) := rfl
theorem call_is_number (k : Nat) : call (k + 1) 2 = runDef 2 (b_is_number (call k)) := rfl
theorem call_fits_field (k : Nat) : call (k + 1) 3 = runDef 2 (b_fits_field (call k)) := rfl
theorem call_read_with_text (k : Nat) : call (k + 1) 4 = runDef 2 (b_read_with_text (call k)) := rfl
theorem call_read_command (k : Nat) : call (k + 1) 5 = runDef 6 (b_read_command (call k)) := rfl
theorem call__law_row (k : Nat) : call (k + 1) 6 = runDef 6 (b__law_row (call k)) := rfl
theorem call__law_at (k : Nat) : call (k + 1) 7 = runDef 2 (b__law_at (call k)) := rfl
theorem call__law_name (k : Nat) : call (k + 1) 8 = runDef 4 (b__law_name (call k)) := rfl
theorem call__law_lines (k : Nat) : call (k + 1) 9 = runDef 8 (b__law_lines (call k)) := rfl
theorem call__law_text (k : Nat) : call (k + 1) 10 = runDef 2 (b__law_text (call k)) := rfl
theorem call__law_spoilt (k : Nat) : call (k + 1) 11 = runDef 7 (b__law_spoilt (call k)) := rfl
theorem call_law (k : Nat) : call (k + 1) 12 = runDef 7 (b_law (call k)) := rfl
/-! ### what stands in the top -/
structure Facts (K : PySem.W.Frag) (mg : Str → Option Value) (w : World) (ad : Nat → Addr) (fd : Nat → FuncData) : Prop where
  F0 : FnP K "is_letter" s_is_letter (ad 0) (fd 0)
  b0 : Binds K (fd 0) ["sign"] []
  m0 : mg "is_letter" = some (.ref (ad 0))
  F1 : FnP K "is_name" s_is_name (ad 1) (fd 1)
  b1 : Binds K (fd 1) ["text"] []
  m1 : mg "is_name" = some (.ref (ad 1))
  F2 : FnP K "is_number" s_is_number (ad 2) (fd 2)
  b2 : Binds K (fd 2) ["word"] []
  m2 : mg "is_number" = some (.ref (ad 2))
  F3 : FnP K "fits_field" s_fits_field (ad 3) (fd 3)
  b3 : Binds K (fd 3) ["word", "field"] []
  m3 : mg "fits_field" = some (.ref (ad 3))
  F4 : FnP K "read_with_text" s_read_with_text (ad 4) (fd 4)
  b4 : Binds K (fd 4) ["line"] []
  m4 : mg "read_with_text" = some (.ref (ad 4))
  F5 : FnP K "read_command" s_read_command (ad 5) (fd 5)
  b5 : Binds K (fd 5) ["line"] []
  m5 : mg "read_command" = some (.ref (ad 5))
  F6 : FnP K "_law_row" s__law_row (ad 6) (fd 6)
  b6 : Binds K (fd 6) ["script"] []
  m6 : mg "_law_row" = some (.ref (ad 6))
  F7 : FnP K "_law_at" s__law_at (ad 7) (fd 7)
  b7 : Binds K (fd 7) ["row", "at"] []
  m7 : mg "_law_at" = some (.ref (ad 7))
  F8 : FnP K "_law_name" s__law_name (ad 8) (fd 8)
  b8 : Binds K (fd 8) ["number"] []
  m8 : mg "_law_name" = some (.ref (ad 8))
  F9 : FnP K "_law_lines" s__law_lines (ad 9) (fd 9)
  b9 : Binds K (fd 9) ["row"] []
  m9 : mg "_law_lines" = some (.ref (ad 9))
  F10 : FnP K "_law_text" s__law_text (ad 10) (fd 10)
  b10 : Binds K (fd 10) ["parts"] []
  m10 : mg "_law_text" = some (.ref (ad 10))
  F11 : FnP K "_law_spoilt" s__law_spoilt (ad 11) (fd 11)
  b11 : Binds K (fd 11) ["parts", "text"] []
  m11 : mg "_law_spoilt" = some (.ref (ad 11))
  F12 : FnP K "law" s_law (ad 12) (fd 12)
  b12 : Binds K (fd 12) ["script"] []
  m12 : mg "law" = some (.ref (ad 12))
  z_abs : mg "abs" = none
  z_all : mg "all" = none
  z_bool : mg "bool" = none
  z_int : mg "int" = none
  z_isinstance : mg "isinstance" = none
  z_len : mg "len" = none
  z_range : mg "range" = none
  z_str : mg "str" = none
  z_tuple : mg "tuple" = none
  z_zip : mg "zip" = none
  c_FORMS : KTab K mg w "FORMS" tab_FORMS
  c_MAX_DIGITS : GlobC K mg "MAX_DIGITS" (.int 3)
  c_MAX_NAME : GlobC K mg "MAX_NAME" (.int 4)
  c_RESERVED : GlobC K mg "RESERVED" (.tup [(.str "skip"), (.str "stop"), (.str "if"), (.str "new"), (.str "proc"), (.str "exit"), (.str "do"), (.str "com"), (.str "exp"), (.str "val")])
  c_WITH_TEXT : GlobC K mg "WITH_TEXT" (.tup [(.str "let"), (.str "module")])
  k_FORMS : KIn K mg w "FORMS" ["show", "fill", "run", "same", "differ", "witness", "certify", "twin", "rule", "apply", "simplify", "code", "attack"]
structure Tab (P : Program) (w : World) (K : PySem.W.Frag) (mg : Str → Option Value) (base : Heap) (ad : Nat → Addr) (fd : Nat → FuncData) (k : Nat) (C : Calls) : Prop where
  G0 : FnOk P w K mg base (L2.CX P w) k (ad 0) (fd 0) ["sign"] (spF K mg 1 (C 0))
  G1 : FnOk P w K mg base (L2.CX P w) k (ad 1) (fd 1) ["text"] (spF K mg 1 (C 1))
  G2 : FnOk P w K mg base (L2.CX P w) k (ad 2) (fd 2) ["word"] (spF K mg 1 (C 2))
  G3 : FnOk P w K mg base (L2.CX P w) k (ad 3) (fd 3) ["word", "field"] (spF K mg 2 (C 3))
  G4 : FnOk P w K mg base (L2.CX P w) k (ad 4) (fd 4) ["line"] (spF K mg 1 (C 4))
  G5 : FnOk P w K mg base (L2.CX P w) k (ad 5) (fd 5) ["line"] (spF K mg 1 (C 5))
  G6 : FnOk P w K mg base (L2.CX P w) k (ad 6) (fd 6) ["script"] (spF K mg 1 (C 6))
  G7 : FnOk P w K mg base (L2.CX P w) k (ad 7) (fd 7) ["row", "at"] (spF K mg 2 (C 7))
  G8 : FnOk P w K mg base (L2.CX P w) k (ad 8) (fd 8) ["number"] (spF K mg 1 (C 8))
  G9 : FnOk P w K mg base (L2.CX P w) k (ad 9) (fd 9) ["row"] (spF K mg 1 (C 9))
  G10 : FnOk P w K mg base (L2.CX P w) k (ad 10) (fd 10) ["parts"] (spF K mg 1 (C 10))
  G11 : FnOk P w K mg base (L2.CX P w) k (ad 11) (fd 11) ["parts", "text"] (spF K mg 2 (C 11))
  G12 : FnOk P w K mg base (L2.CX P w) k (ad 12) (fd 12) ["script"] (spF K mg 1 (C 12))
section
variable {P : Program} {w : World} {K : PySem.W.Frag} {mg : Str → Option Value} {base : Heap} {ad : Nat → Addr} {fd : Nat → FuncData} {k : Nat} {C : Calls}
end
end Lw
namespace Lw
open PySem PySem.Spec PyProof.Rows L2 RZ Dg
section
variable {P : Program} {w : World} {K : PySem.W.Frag} {mg : Str → Option Value} {base : Heap} {ad : Nat → Addr} {fd : Nat → FuncData} {k : Nat} {C : Calls}
theorem ok_is_letter (Fx : Facts K mg w ad fd) (T : Tab P w K mg base ad fd (k + 40) C) : FnOk P w K mg base (L2.CX P w) (k + 41) (ad 0) (fd 0) ["sign"] (spF K mg 1 (runDef 1 (b_is_letter C))) :=
  defD_ok (N := N_is_letter) (ps := ["sign"]) Fx.F0 sc_is_letter (fun cdv A outer s H E G =>
    (css_one (cs_ret (ce_chain os_le os_le ce_str (ce_var 0) ce_str (fun h h2 x y z => pe_chain h h2 x y z)))))
end
end Lw
namespace Lw
open PySem PySem.Spec PyProof.Rows L2 RZ Dg
section
variable {P : Program} {w : World} {K : PySem.W.Frag} {mg : Str → Option Value} {base : Heap} {ad : Nat → Addr} {fd : Nat → FuncData} {k : Nat} {C : Calls}
theorem ok_is_name (Fx : Facts K mg w ad fd) (T : Tab P w K mg base ad fd (k + 40) C) : FnOk P w K mg base (L2.CX P w) (k + 41) (ad 1) (fd 1) ["text"] (spF K mg 1 (runDef 2 (b_is_name C))) :=
  defD_ok (N := N_is_name) (ps := ["text"]) Fx.F1 sc_is_name (fun cdv A outer s H E G =>
    (css_cons (cs_if (CW.ct (cw_or (ct_not (ct_chain os_le os_le ce_int (ce_callB cs_len rfl Fx.z_len bt_len (ca_cons (ce_var 0) ca_nil) (fun hc ha => pe_callB hc rfl Fx.z_len bt_len ha)) (ce_globC rfl Fx.c_MAX_NAME) (fun h h2 x y z => pt_chain h h2 x y z))) (cw_or1 (ct_cmp (os_in G) (ce_var 0) (ce_globC rfl Fx.c_RESERVED) (by rfl))))) (css_one (cs_ret ce_bl)) css_nil)
    (css_one (cs_ret (ce_callB (cs_all G.calm) rfl Fx.z_all bt_all (ca_cons (ce_lc (own := [("sign", 1)]) G sc_is_name.nd (blkOk_by (own := [("sign", 1)]) (N := N_is_name) (sc := defScope s_is_name) (by decide +kernel)) (ci_seq (ce_var 0)) (fun s0 H0 C0 cl fp => (cg_one (i := 1) sc_is_name.nd rfl (Or.inl rfl))) (fun s0 H0 C0 cl fp => cts_nil) (fun s0 H0 C0 cl fp => have G := Good.blk (s := s0) (H := H0) (fp := fp) G; (ce_def G (Nat.le_refl _) T.G0 (ca_cons (ce_var 1) ca_nil) (fun hx ha => pe_callS T.G0 G.room rfl Fx.m0 Fx.F0.kp Fx.b0 hx ha))) rfl) ca_nil) (fun hc ha => pe_callB hc rfl Fx.z_all bt_all ha))))))
end
end Lw
namespace Lw
open PySem PySem.Spec PyProof.Rows L2 RZ Dg
section
variable {P : Program} {w : World} {K : PySem.W.Frag} {mg : Str → Option Value} {base : Heap} {ad : Nat → Addr} {fd : Nat → FuncData} {k : Nat} {C : Calls}
theorem ok_is_number (Fx : Facts K mg w ad fd) (T : Tab P w K mg base ad fd (k + 40) C) : FnOk P w K mg base (L2.CX P w) (k + 41) (ad 2) (fd 2) ["word"] (spF K mg 1 (runDef 2 (b_is_number C))) :=
  defD_ok (N := N_is_number) (ps := ["word"]) Fx.F2 sc_is_number (fun cdv A outer s H E G =>
    (css_cons (cs_if (CW.ct (cw_or (ct_not (ct_chain os_le os_le ce_int (ce_callB cs_len rfl Fx.z_len bt_len (ca_cons (ce_var 0) ca_nil) (fun hc ha => pe_callB hc rfl Fx.z_len bt_len ha)) (ce_globC rfl Fx.c_MAX_DIGITS) (fun h h2 x y z => pt_chain h h2 x y z))) (cw_or1 (ct_not (ct_val (ce_callB (cs_all G.calm) rfl Fx.z_all bt_all (ca_cons (ce_lc (own := [("sign", 1)]) G sc_is_number.nd (blkOk_by (own := [("sign", 1)]) (N := N_is_number) (sc := defScope s_is_number) (by decide +kernel)) (ci_seq (ce_var 0)) (fun s0 H0 C0 cl fp => (cg_one (i := 1) sc_is_number.nd rfl (Or.inl rfl))) (fun s0 H0 C0 cl fp => cts_nil) (fun s0 H0 C0 cl fp => (ce_chain os_le os_le ce_str (ce_var 1) ce_str (fun h h2 x y z => pe_chain h h2 x y z))) rfl) ca_nil) (fun hc ha => pe_callB hc rfl Fx.z_all bt_all ha))))))) (css_one (cs_ret ce_bl)) css_nil)
    (css_one (cs_ret (ce_or (ce_cmp (os_eq G) (ce_var 0) ce_str (nomark _)) (ce_one (ce_cmp (os_ne G) (ce_sub G (ce_var 0) ce_int) ce_str (nomark _))))))))
end
end Lw
namespace Lw
open PySem PySem.Spec PyProof.Rows L2 RZ Dg
section
variable {P : Program} {w : World} {K : PySem.W.Frag} {mg : Str → Option Value} {base : Heap} {ad : Nat → Addr} {fd : Nat → FuncData} {k : Nat} {C : Calls}
theorem ok_fits_field (Fx : Facts K mg w ad fd) (T : Tab P w K mg base ad fd (k + 40) C) : FnOk P w K mg base (L2.CX P w) (k + 41) (ad 3) (fd 3) ["word", "field"] (spF K mg 2 (runDef 2 (b_fits_field C))) :=
  defD_ok (N := N_fits_field) (ps := ["word", "field"]) Fx.F3 sc_fits_field (fun cdv A outer s H E G =>
    (css_one (cs_ret (ce_if (ct_cmp (os_eq G) (ce_var 1) ce_str (nomark _)) (ce_def G (Nat.le_refl _) T.G2 (ca_cons (ce_var 0) ca_nil) (fun hx ha => pe_callS T.G2 G.room rfl Fx.m2 Fx.F2.kp Fx.b2 hx ha)) (ce_def G (Nat.le_refl _) T.G1 (ca_cons (ce_var 0) ca_nil) (fun hx ha => pe_callS T.G1 G.room rfl Fx.m1 Fx.F1.kp Fx.b1 hx ha))))))
end
end Lw
namespace Lw
open PySem PySem.Spec PyProof.Rows L2 RZ Dg
section
variable {P : Program} {w : World} {K : PySem.W.Frag} {mg : Str → Option Value} {base : Heap} {ad : Nat → Addr} {fd : Nat → FuncData} {k : Nat} {C : Calls}
theorem ok_read_with_text (Fx : Facts K mg w ad fd) (T : Tab P w K mg base ad fd (k + 40) C) : FnOk P w K mg base (L2.CX P w) (k + 41) (ad 4) (fd 4) ["line"] (spF K mg 1 (runDef 2 (b_read_with_text C))) :=
  defD_ok (N := N_read_with_text) (ps := ["line"]) Fx.F4 sc_read_with_text (fun cdv A outer s H E G =>
    (css_cons (cs_set (i := 1) sc_read_with_text.nd rfl (Or.inl rfl) (ce_mtS gs_split (ce_var 0) (ca_cons ce_str (ca_cons ce_int ca_nil)) (fun hm ho ha => pe_bm PySem.F.plainAttrs_str PySem.F.slot_str_split PySem.F.type_str_split hm ho ha)))
    (css_cons (cs_if (CW.ct (cw_or (ct_cmp (os_ne G) (ce_callB cs_len rfl Fx.z_len bt_len (ca_cons (ce_var 1) ca_nil) (fun hc ha => pe_callB hc rfl Fx.z_len bt_len ha)) ce_int (nomark _)) (cw_or (ct_not (ct_val (ce_def G (Nat.le_refl _) T.G1 (ca_cons (ce_sub G (ce_var 1) ce_int) ca_nil) (fun hx ha => pe_callS T.G1 G.room rfl Fx.m1 Fx.F1.kp Fx.b1 hx ha)))) (cw_or1 (ct_cmp (os_ne G) (ce_sub G (ce_var 1) ce_int) ce_str (nomark _)))))) (css_one (cs_ret ce_non)) css_nil)
    (css_one (cs_ret (ce_tup (ca_cons (ce_sub G (ce_var 1) ce_int) (ca_cons (ce_sub G (ce_var 1) ce_int) (ca_cons (ce_sub G (ce_var 1) ce_int) ca_nil)))))))))
end
end Lw
namespace Lw
open PySem PySem.Spec PyProof.Rows L2 RZ Dg
section
variable {P : Program} {w : World} {K : PySem.W.Frag} {mg : Str → Option Value} {base : Heap} {ad : Nat → Addr} {fd : Nat → FuncData} {k : Nat} {C : Calls}
theorem ok_read_command (Fx : Facts K mg w ad fd) (T : Tab P w K mg base ad fd (k + 40) C) : FnOk P w K mg base (L2.CX P w) (k + 41) (ad 5) (fd 5) ["line"] (spF K mg 1 (runDef 6 (b_read_command C))) :=
  defD_ok (N := N_read_command) (ps := ["line"]) Fx.F5 sc_read_command (fun cdv A outer s H E G =>
    (css_cons (cs_if (ct_cmp (os_eq G) (ce_var 0) ce_str (nomark _)) (css_one (cs_ret (ce_tup ca_nil))) css_nil)
    (css_cons (cs_star G.calm (ce_mtS gs_split (ce_var 0) (ca_cons ce_str ca_nil) (fun hm ho ha => pe_bm PySem.F.plainAttrs_str PySem.F.slot_str_split PySem.F.type_str_split hm ho ha)) (cgs_cons (cg_one (i := 1) sc_read_command.nd rfl (Or.inl rfl)) (cgs_cons (cg_one (i := 2) sc_read_command.nd rfl (Or.inl rfl)) cgs_nil)) (fun he hg => ps_asg he hg))
    (css_cons (cs_if (ct_cmp (os_in G) (ce_var 1) (ce_globC rfl Fx.c_WITH_TEXT) (by rfl)) (css_one (cs_ret (ce_def G (Nat.le_refl _) T.G4 (ca_cons (ce_var 0) ca_nil) (fun hx ha => pe_callS T.G4 G.room rfl Fx.m4 Fx.F4.kp Fx.b4 hx ha)))) css_nil)
    (css_cons (cs_if (CW.ct (cw_or (ct_knin rfl Fx.k_FORMS (ce_var 1)) (cw_or1 (ct_cmp (os_ne G) (ce_callB cs_len rfl Fx.z_len bt_len (ca_cons (ce_var 2) ca_nil) (fun hc ha => pe_callB hc rfl Fx.z_len bt_len ha)) (ce_callB cs_len rfl Fx.z_len bt_len (ca_cons (ce_kget rfl Fx.c_FORMS (ce_var 1)) ca_nil) (fun hc ha => pe_callB hc rfl Fx.z_len bt_len ha)) (nomark _))))) (css_one (cs_ret ce_non)) css_nil)
    (css_cons (cs_set (i := 3) sc_read_command.nd rfl (Or.inl rfl) (ce_kget rfl Fx.c_FORMS (ce_var 1)))
    (css_cons (cs_if (ct_not (ct_val (ce_callB (cs_all G.calm) rfl Fx.z_all bt_all (ca_cons (ce_lc (own := [("word", 4), ("field", 5)]) G sc_read_command.nd (blkOk_by (own := [("word", 4), ("field", 5)]) (N := N_read_command) (sc := defScope s_read_command) (by decide +kernel)) (ci_zipW (ce_var 2) (ce_var 3) (fun ha => pi_zipW rfl Fx.z_zip ha)) (fun s0 H0 C0 cl fp => have G := Good.blk (s := s0) (H := H0) (fp := fp) G; (cg_tup G.calm (cgs_cons (cg_one (i := 4) sc_read_command.nd rfl (Or.inl rfl)) (cgs_cons (cg_one (i := 5) sc_read_command.nd rfl (Or.inl rfl)) cgs_nil)))) (fun s0 H0 C0 cl fp => cts_nil) (fun s0 H0 C0 cl fp => have G := Good.blk (s := s0) (H := H0) (fp := fp) G; (ce_def G (Nat.le_refl _) T.G3 (ca_cons (ce_var 4) (ca_cons (ce_var 5) ca_nil)) (fun hx ha => pe_callS T.G3 G.room rfl Fx.m3 Fx.F3.kp Fx.b3 hx ha))) rfl) ca_nil) (fun hc ha => pe_callB hc rfl Fx.z_all bt_all ha)))) (css_one (cs_ret ce_non)) css_nil)
    (css_one (cs_ret (ce_tup (ca_cons (ce_var 1) (ca_star (ce_lc (own := [("word", 4), ("field", 5)]) G sc_read_command.nd (blkOk_by (own := [("word", 4), ("field", 5)]) (N := N_read_command) (sc := defScope s_read_command) (by decide +kernel)) (ci_zipW (ce_var 2) (ce_var 3) (fun ha => pi_zipW rfl Fx.z_zip ha)) (fun s0 H0 C0 cl fp => have G := Good.blk (s := s0) (H := H0) (fp := fp) G; (cg_tup G.calm (cgs_cons (cg_one (i := 4) sc_read_command.nd rfl (Or.inl rfl)) (cgs_cons (cg_one (i := 5) sc_read_command.nd rfl (Or.inl rfl)) cgs_nil)))) (fun s0 H0 C0 cl fp => cts_nil) (fun s0 H0 C0 cl fp => have G := Good.blk (s := s0) (H := H0) (fp := fp) G; (ce_if (ct_cmp (os_eq G) (ce_var 5) ce_str (nomark _)) (ce_callT cs_intT rfl Fx.z_int bt_int (ca_cons (ce_var 4) ca_nil) (fun hc ha => pe_callTy hc rfl Fx.z_int bt_int ha)) (ce_var 4))) rfl) ca_nil))))))))))))
end
end Lw
namespace Lw
open PySem PySem.Spec PyProof.Rows L2 RZ Dg
section
variable {P : Program} {w : World} {K : PySem.W.Frag} {mg : Str → Option Value} {base : Heap} {ad : Nat → Addr} {fd : Nat → FuncData} {k : Nat} {C : Calls}
theorem ok__law_row (Fx : Facts K mg w ad fd) (T : Tab P w K mg base ad fd (k + 40) C) : FnOk P w K mg base (L2.CX P w) (k + 41) (ad 6) (fd 6) ["script"] (spF K mg 1 (runDef 6 (b__law_row C))) :=
  defD_ok (N := N__law_row) (ps := ["script"]) Fx.F6 sc__law_row (fun cdv A outer s H E G =>
    (css_cons (cs_set (i := 1) sc__law_row.nd rfl (Or.inl rfl) (ce_lst ca_nil))
    (css_cons (cs_for G (ci_rg1 rfl Fx.z_range (ce_callB cs_len rfl Fx.z_len bt_len (ca_cons (ce_var 0) ca_nil) (fun hc ha => pe_callB hc rfl Fx.z_len bt_len ha))) (cg_one (i := 2) sc__law_row.nd rfl (Or.inl rfl)) (css_cons (cs_set (i := 3) sc__law_row.nd rfl (Or.inl rfl) (ce_callB cs_abs rfl Fx.z_abs bt_abs (ca_cons (ce_callT cs_int rfl Fx.z_int bt_int (ca_cons (ce_sub G (ce_var 0) (ce_var 2)) ca_nil) (fun hc ha => pe_callTy hc rfl Fx.z_int bt_int ha)) ca_nil) (fun hc ha => pe_callB hc rfl Fx.z_abs bt_abs ha)))
    (css_one (cs_if (ct_cmp (os_geX G) (ce_var 3) (ce_op os_pow ce_int ce_int) (nomark _)) (css_one (cs_for G (ci_rg1 rfl Fx.z_range ce_int) (cg_one (i := 4) sc__law_row.nd rfl (Or.inl rfl)) (css_one (cs_if (ct_cmp os_gt (ce_var 3) ce_int (nomark _)) (css_cons (cs_expr (ce_mtL gs_append (ce_var 1) (ca_cons (ce_op os_mod (ce_callT cs_int rfl Fx.z_int bt_int (ca_cons (ce_var 3) ca_nil) (fun hc ha => pe_callTy hc rfl Fx.z_int bt_int ha)) ce_int) ca_nil) (fun hm ho ha => pe_bm PySem.F.plainAttrs_list PySem.F.slot_list_append PySem.F.type_list_append hm ho ha)))
    (css_one (cs_set (i := 3) sc__law_row.nd rfl (Or.inl rfl) (ce_op os_fdiv (ce_var 3) ce_int)))) css_nil)))) (css_cons (cs_set (i := 5) sc__law_row.nd rfl (Or.inl rfl) (ce_op os_mod (ce_callT cs_int rfl Fx.z_int bt_int (ca_cons (ce_op os_add (ce_op os_add (ce_op os_mul (ce_var 3) ce_int) (ce_op os_mul (ce_var 2) ce_int)) ce_int) ca_nil) (fun hc ha => pe_callTy hc rfl Fx.z_int bt_int ha)) ce_int))
    (css_one (cs_for G (ci_rg1 rfl Fx.z_range ce_int) (cg_one (i := 4) sc__law_row.nd rfl (Or.inl rfl)) (css_cons (cs_set (i := 5) sc__law_row.nd rfl (Or.inl rfl) (ce_op os_mod (ce_callT cs_int rfl Fx.z_int bt_int (ca_cons (ce_op os_add (ce_op os_add (ce_op os_mul (ce_var 5) ce_int) (ce_op os_mul ce_int (ce_var 4))) ce_int) ca_nil) (fun hc ha => pe_callTy hc rfl Fx.z_int bt_int ha)) ce_int))
    (css_one (cs_expr (ce_mtL gs_append (ce_var 1) (ca_cons (ce_op os_mod (ce_callT cs_int rfl Fx.z_int bt_int (ca_cons (ce_op os_fdiv (ce_var 5) ce_int) ca_nil) (fun hc ha => pe_callTy hc rfl Fx.z_int bt_int ha)) ce_int) ca_nil) (fun hm ho ha => pe_bm PySem.F.plainAttrs_list PySem.F.slot_list_append PySem.F.type_list_append hm ho ha))))))))))))
    (css_one (cs_ret (ce_var 1))))))
end
end Lw
namespace Lw
open PySem PySem.Spec PyProof.Rows L2 RZ Dg
section
variable {P : Program} {w : World} {K : PySem.W.Frag} {mg : Str → Option Value} {base : Heap} {ad : Nat → Addr} {fd : Nat → FuncData} {k : Nat} {C : Calls}
theorem ok__law_at (Fx : Facts K mg w ad fd) (T : Tab P w K mg base ad fd (k + 40) C) : FnOk P w K mg base (L2.CX P w) (k + 41) (ad 7) (fd 7) ["row", "at"] (spF K mg 2 (runDef 2 (b__law_at C))) :=
  defD_ok (N := N__law_at) (ps := ["row", "at"]) Fx.F7 sc__law_at (fun cdv A outer s H E G =>
    (css_cons (cs_if (ct_chain os_le os_lt ce_int (ce_var 1) (ce_callB cs_len rfl Fx.z_len bt_len (ca_cons (ce_var 0) ca_nil) (fun hc ha => pe_callB hc rfl Fx.z_len bt_len ha)) (fun h h2 x y z => pt_chain h h2 x y z)) (css_one (cs_ret (ce_sub G (ce_var 0) (ce_var 1)))) css_nil)
    (css_one (cs_ret ce_int))))
end
end Lw
namespace Lw
open PySem PySem.Spec PyProof.Rows L2 RZ Dg
section
variable {P : Program} {w : World} {K : PySem.W.Frag} {mg : Str → Option Value} {base : Heap} {ad : Nat → Addr} {fd : Nat → FuncData} {k : Nat} {C : Calls}
theorem ok__law_name (Fx : Facts K mg w ad fd) (T : Tab P w K mg base ad fd (k + 40) C) : FnOk P w K mg base (L2.CX P w) (k + 41) (ad 8) (fd 8) ["number"] (spF K mg 1 (runDef 4 (b__law_name C))) :=
  defD_ok (N := N__law_name) (ps := ["number"]) Fx.F8 sc__law_name (fun cdv A outer s H E G =>
    (css_cons (cs_set (i := 1) sc__law_name.nd rfl (Or.inl rfl) ce_str)
    (css_cons (cs_set (i := 2) sc__law_name.nd rfl (Or.inl rfl) ce_str)
    (css_cons (cs_for G (ci_rg1 rfl Fx.z_range (ce_op os_add ce_int (ce_op os_mod (ce_callT cs_int rfl Fx.z_int bt_int (ca_cons (ce_var 0) ca_nil) (fun hc ha => pe_callTy hc rfl Fx.z_int bt_int ha)) ce_int))) (cg_one (i := 3) sc__law_name.nd rfl (Or.inl rfl)) (css_one (cs_set (i := 2) sc__law_name.nd rfl (Or.inl rfl) (ce_op os_add (ce_var 2) (ce_sub G (ce_var 1) (ce_op os_mod (ce_callT cs_int rfl Fx.z_int bt_int (ca_cons (ce_op os_add (ce_op os_add (ce_op os_mul (ce_var 0) ce_int) (ce_op os_mul (ce_op os_mul (ce_var 3) (ce_var 3)) ce_int)) (ce_var 3)) ca_nil) (fun hc ha => pe_callTy hc rfl Fx.z_int bt_int ha)) ce_int))))))
    (css_cons (cs_if (ct_cmp (os_in G) (ce_var 2) (ce_lst (ca_cons ce_str (ca_cons ce_str (ca_cons ce_str (ca_cons ce_str (ca_cons ce_str (ca_cons ce_str (ca_cons ce_str (ca_cons ce_str (ca_cons ce_str (ca_cons ce_str ca_nil))))))))))) (by rfl)) (css_one (cs_ret ce_str)) css_nil)
    (css_one (cs_ret (ce_var 2))))))))
end
end Lw
namespace Lw
open PySem PySem.Spec PyProof.Rows L2 RZ Dg
section
variable {P : Program} {w : World} {K : PySem.W.Frag} {mg : Str → Option Value} {base : Heap} {ad : Nat → Addr} {fd : Nat → FuncData} {k : Nat} {C : Calls}
theorem ok__law_lines (Fx : Facts K mg w ad fd) (T : Tab P w K mg base ad fd (k + 40) C) : FnOk P w K mg base (L2.CX P w) (k + 41) (ad 9) (fd 9) ["row"] (spF K mg 1 (runDef 8 (b__law_lines C))) :=
  defD_ok (N := N__law_lines) (ps := ["row"]) Fx.F9 sc__law_lines (fun cdv A outer s H E G =>
    (css_cons (cs_set (i := 1) sc__law_lines.nd rfl (Or.inl rfl) (ce_def G (Nat.le_refl _) T.G8 (ca_cons (ce_def G (Nat.le_refl _) T.G7 (ca_cons (ce_var 0) (ca_cons ce_int ca_nil)) (fun hx ha => pe_callS T.G7 G.room rfl Fx.m7 Fx.F7.kp Fx.b7 hx ha)) ca_nil) (fun hx ha => pe_callS T.G8 G.room rfl Fx.m8 Fx.F8.kp Fx.b8 hx ha)))
    (css_cons (cs_set (i := 2) sc__law_lines.nd rfl (Or.inl rfl) (ce_def G (Nat.le_refl _) T.G8 (ca_cons (ce_def G (Nat.le_refl _) T.G7 (ca_cons (ce_var 0) (ca_cons ce_int ca_nil)) (fun hx ha => pe_callS T.G7 G.room rfl Fx.m7 Fx.F7.kp Fx.b7 hx ha)) ca_nil) (fun hx ha => pe_callS T.G8 G.room rfl Fx.m8 Fx.F8.kp Fx.b8 hx ha)))
    (css_cons (cs_set (i := 3) sc__law_lines.nd rfl (Or.inl rfl) (ce_def G (Nat.le_refl _) T.G8 (ca_cons (ce_def G (Nat.le_refl _) T.G7 (ca_cons (ce_var 0) (ca_cons ce_int ca_nil)) (fun hx ha => pe_callS T.G7 G.room rfl Fx.m7 Fx.F7.kp Fx.b7 hx ha)) ca_nil) (fun hx ha => pe_callS T.G8 G.room rfl Fx.m8 Fx.F8.kp Fx.b8 hx ha)))
    (css_cons (cs_set (i := 4) sc__law_lines.nd rfl (Or.inl rfl) (ce_op os_mod (ce_callT cs_int rfl Fx.z_int bt_int (ca_cons (ce_def G (Nat.le_refl _) T.G7 (ca_cons (ce_var 0) (ca_cons ce_int ca_nil)) (fun hx ha => pe_callS T.G7 G.room rfl Fx.m7 Fx.F7.kp Fx.b7 hx ha)) ca_nil) (fun hc ha => pe_callTy hc rfl Fx.z_int bt_int ha)) ce_int))
    (css_cons (cs_set (i := 5) sc__law_lines.nd rfl (Or.inl rfl) (ce_sub G (ce_lst (ca_cons ce_int (ca_cons ce_int (ca_cons ce_int (ca_cons ce_int ca_nil))))) (ce_op os_mod (ce_callT cs_int rfl Fx.z_int bt_int (ca_cons (ce_def G (Nat.le_refl _) T.G7 (ca_cons (ce_var 0) (ca_cons ce_int ca_nil)) (fun hx ha => pe_callS T.G7 G.room rfl Fx.m7 Fx.F7.kp Fx.b7 hx ha)) ca_nil) (fun hc ha => pe_callTy hc rfl Fx.z_int bt_int ha)) ce_int)))
    (css_cons (cs_set (i := 6) sc__law_lines.nd rfl (Or.inl rfl) (ce_sub G (ce_lst (ca_cons ce_str (ca_cons ce_str (ca_cons ce_str (ca_cons ce_str (ca_cons ce_str ca_nil)))))) (ce_op os_mod (ce_callT cs_int rfl Fx.z_int bt_int (ca_cons (ce_def G (Nat.le_refl _) T.G7 (ca_cons (ce_var 0) (ca_cons ce_int ca_nil)) (fun hx ha => pe_callS T.G7 G.room rfl Fx.m7 Fx.F7.kp Fx.b7 hx ha)) ca_nil) (fun hc ha => pe_callTy hc rfl Fx.z_int bt_int ha)) ce_int)))
    (css_cons (cs_set (i := 7) sc__law_lines.nd rfl (Or.inl rfl) (ce_lst (ca_cons (ce_tup (ca_cons ce_str (ca_cons (ce_var 1) (ca_cons (ce_var 6) ca_nil)))) (ca_cons (ce_tup (ca_cons ce_str (ca_cons (ce_var 2) (ca_cons (ce_var 6) ca_nil)))) (ca_cons (ce_tup (ca_cons ce_str (ca_cons (ce_var 1) ca_nil))) (ca_cons (ce_tup (ca_cons ce_str (ca_cons (ce_var 1) ca_nil))) (ca_cons (ce_tup (ca_cons ce_str (ca_cons (ce_var 2) ca_nil))) (ca_cons (ce_tup (ca_cons ce_str (ca_cons (ce_var 1) (ca_cons (ce_var 2) (ca_cons (ce_var 3) ca_nil))))) ca_nil))))))))
    (css_cons (cs_set (i := 7) sc__law_lines.nd rfl (Or.inl rfl) (ce_op os_add (ce_var 7) (ce_lst (ca_cons (ce_tup (ca_cons ce_str (ca_cons (ce_var 1) (ca_cons (ce_var 2) (ca_cons (ce_var 3) ca_nil))))) (ca_cons (ce_tup (ca_cons ce_str (ca_cons (ce_var 1) (ca_cons (ce_var 2) ca_nil)))) (ca_cons (ce_tup (ca_cons ce_str (ca_cons (ce_var 1) (ca_cons (ce_var 2) ca_nil)))) (ca_cons (ce_tup (ca_cons ce_str (ca_cons (ce_var 2) (ca_cons (ce_var 1) ca_nil)))) ca_nil)))))))
    (css_cons (cs_set (i := 7) sc__law_lines.nd rfl (Or.inl rfl) (ce_op os_add (ce_var 7) (ce_lst (ca_cons (ce_tup (ca_cons ce_str (ca_cons (ce_var 1) (ca_cons (ce_var 2) ca_nil)))) (ca_cons (ce_tup (ca_cons ce_str (ca_cons (ce_var 1) (ca_cons (ce_var 3) ca_nil)))) (ca_cons (ce_tup (ca_cons ce_str (ca_cons (ce_var 1) (ca_cons (ce_var 2) ca_nil)))) (ca_cons (ce_tup (ca_cons ce_str (ca_cons (ce_var 3) (ca_cons (ce_var 2) ca_nil)))) ca_nil)))))))
    (css_one (cs_ret (ce_op os_add (ce_var 7) (ce_lst (ca_cons (ce_tup (ca_cons ce_str (ca_cons (ce_var 4) (ca_cons (ce_var 1) (ca_cons (ce_var 5) (ca_cons (ce_var 2) ca_nil)))))) ca_nil)))))))))))))))
end
end Lw
namespace Lw
open PySem PySem.Spec PyProof.Rows L2 RZ Dg
section
variable {P : Program} {w : World} {K : PySem.W.Frag} {mg : Str → Option Value} {base : Heap} {ad : Nat → Addr} {fd : Nat → FuncData} {k : Nat} {C : Calls}
theorem ok__law_text (Fx : Facts K mg w ad fd) (T : Tab P w K mg base ad fd (k + 40) C) : FnOk P w K mg base (L2.CX P w) (k + 41) (ad 10) (fd 10) ["parts"] (spF K mg 1 (runDef 2 (b__law_text C))) :=
  defD_ok (N := N__law_text) (ps := ["parts"]) Fx.F10 sc__law_text (fun cdv A outer s H E G =>
    (css_cons (cs_if (ct_cmp (os_in G) (ce_sub G (ce_var 0) ce_int) (ce_lst (ca_cons ce_str (ca_cons ce_str ca_nil))) (by rfl)) (css_one (cs_ret (ce_op os_add (ce_op os_add (ce_op os_add (ce_op os_add (ce_sub G (ce_var 0) ce_int) ce_str) (ce_sub G (ce_var 0) ce_int)) ce_str) (ce_sub G (ce_var 0) ce_int)))) css_nil)
    (css_one (cs_ret (ce_mtS gs_join ce_str (ca_cons (ce_lc (own := [("part", 1)]) G sc__law_text.nd (blkOk_by (own := [("part", 1)]) (N := N__law_text) (sc := defScope s__law_text) (by decide +kernel)) (ci_seq (ce_var 0)) (fun s0 H0 C0 cl fp => (cg_one (i := 1) sc__law_text.nd rfl (Or.inl rfl))) (fun s0 H0 C0 cl fp => cts_nil) (fun s0 H0 C0 cl fp => (ce_callT cs_str rfl Fx.z_str bt_str (ca_cons (ce_var 1) ca_nil) (fun hc ha => pe_callTy hc rfl Fx.z_str bt_str ha))) rfl) ca_nil) (fun hm ho ha => pe_bm PySem.F.plainAttrs_str PySem.F.slot_str_join PySem.F.type_str_join hm ho ha))))))
end
end Lw
namespace Lw
open PySem PySem.Spec PyProof.Rows L2 RZ Dg
section
variable {P : Program} {w : World} {K : PySem.W.Frag} {mg : Str → Option Value} {base : Heap} {ad : Nat → Addr} {fd : Nat → FuncData} {k : Nat} {C : Calls}
theorem ok__law_spoilt (Fx : Facts K mg w ad fd) (T : Tab P w K mg base ad fd (k + 40) C) : FnOk P w K mg base (L2.CX P w) (k + 41) (ad 11) (fd 11) ["parts", "text"] (spF K mg 2 (runDef 7 (b__law_spoilt C))) :=
  defD_ok (N := N__law_spoilt) (ps := ["parts", "text"]) Fx.F11 sc__law_spoilt (fun cdv A outer s H E G =>
    (css_cons (cs_set (i := 2) sc__law_spoilt.nd rfl (Or.inr rfl) (ce_sub G (ce_var 0) ce_int))
    (css_cons (cs_set (i := 3) sc__law_spoilt.nd rfl (Or.inl rfl) (ce_lst (ca_cons (ce_op os_add ce_str (ce_var 1)) (ca_cons (ce_op os_add (ce_mtS0 gs_upper (ce_var 2) (fun hm ho => pe_bm0 PySem.F.plainAttrs_str PySem.F.slot_str_upper PySem.F.type_str_upper hm ho)) (ce_slice (ce_var 1) (co_some (ce_callB cs_len rfl Fx.z_len bt_len (ca_cons (ce_var 2) ca_nil) (fun hc ha => pe_callB hc rfl Fx.z_len bt_len ha))) co_none)) (ca_cons (ce_op os_add (ce_op os_add (ce_var 2) ce_str) (ce_slice (ce_var 1) (co_some (ce_callB cs_len rfl Fx.z_len bt_len (ca_cons (ce_var 2) ca_nil) (fun hc ha => pe_callB hc rfl Fx.z_len bt_len ha))) co_none)) (ca_cons (ce_var 2) (ca_cons (ce_op os_add (ce_op os_add (ce_var 2) ce_str) (ce_slice (ce_var 1) (co_some (ce_callB cs_len rfl Fx.z_len bt_len (ca_cons (ce_var 2) ca_nil) (fun hc ha => pe_callB hc rfl Fx.z_len bt_len ha))) co_none)) ca_nil)))))))
    (css_cons (cs_if (ct_cmp (os_in G) (ce_var 2) (ce_lst (ca_cons ce_str (ca_cons ce_str ca_nil))) (by rfl)) (css_cons (cs_set (i := 4) sc__law_spoilt.nd rfl (Or.inr rfl) (ce_slice (ce_var 1) (co_some (ce_op os_add (ce_op os_add (ce_callB cs_len rfl Fx.z_len bt_len (ca_cons (ce_var 2) ca_nil) (fun hc ha => pe_callB hc rfl Fx.z_len bt_len ha)) ce_int) (ce_callB cs_len rfl Fx.z_len bt_len (ca_cons (ce_sub G (ce_var 0) ce_int) ca_nil) (fun hc ha => pe_callB hc rfl Fx.z_len bt_len ha)))) co_none))
    (css_cons (cs_set (i := 3) sc__law_spoilt.nd rfl (Or.inl rfl) (ce_op os_add (ce_var 3) (ce_lst (ca_cons (ce_op os_add (ce_op os_add (ce_op os_add (ce_var 2) ce_str) (ce_sub G (ce_var 0) ce_int)) ce_str) (ca_cons (ce_op os_add (ce_op os_add (ce_op os_add (ce_op os_add (ce_var 2) ce_str) (ce_sub G (ce_var 0) ce_int)) ce_str) (ce_sub G (ce_var 0) ce_int)) (ca_cons (ce_op os_add (ce_op os_add (ce_op os_add (ce_op os_add (ce_var 2) ce_str) (ce_sub G (ce_var 0) ce_int)) ce_str) (ce_sub G (ce_var 0) ce_int)) ca_nil))))))
    (css_one (cs_ret (ce_op os_add (ce_var 3) (ce_lc (own := [("name", 6)]) G sc__law_spoilt.nd (blkOk_by (own := [("name", 6)]) (N := N__law_spoilt) (sc := defScope s__law_spoilt) (by decide +kernel)) (ci_seq (ce_lst (ca_cons ce_str (ca_cons ce_str (ca_cons ce_str (ca_cons ce_str (ca_cons ce_str (ca_cons ce_str ca_nil)))))))) (fun s0 H0 C0 cl fp => (cg_one (i := 6) sc__law_spoilt.nd rfl (Or.inl rfl))) (fun s0 H0 C0 cl fp => cts_nil) (fun s0 H0 C0 cl fp => (ce_op os_add (ce_op os_add (ce_op os_add (ce_var 2) ce_str) (ce_var 6)) (ce_var 4))) rfl)))))) css_nil)
    (css_cons (cs_set (i := 3) sc__law_spoilt.nd rfl (Or.inl rfl) (ce_op os_add (ce_var 3) (ce_lst (ca_cons (ce_op os_add (ce_var 1) ce_str) (ca_cons (ce_op os_add (ce_var 1) ce_str) (ca_cons (ce_op os_add (ce_var 1) ce_str) ca_nil))))))
    (css_cons (cs_if (ct_cmp (os_ne G) (ce_var 2) ce_str (nomark _)) (css_one (cs_ret (ce_op os_add (ce_var 3) (ce_lc (own := [("name", 6)]) G sc__law_spoilt.nd (blkOk_by (own := [("name", 6)]) (N := N__law_spoilt) (sc := defScope s__law_spoilt) (by decide +kernel)) (ci_seq (ce_lst (ca_cons ce_str (ca_cons ce_str (ca_cons ce_str (ca_cons ce_str (ca_cons ce_str (ca_cons ce_str ca_nil)))))))) (fun s0 H0 C0 cl fp => (cg_one (i := 6) sc__law_spoilt.nd rfl (Or.inl rfl))) (fun s0 H0 C0 cl fp => cts_nil) (fun s0 H0 C0 cl fp => have G := Good.blk (s := s0) (H := H0) (fp := fp) G; (ce_op os_add (ce_op os_add (ce_op os_add (ce_var 2) ce_str) (ce_var 6)) (ce_slice (ce_var 1) (co_some (ce_op os_add (ce_op os_add (ce_callB cs_len rfl Fx.z_len bt_len (ca_cons (ce_var 2) ca_nil) (fun hc ha => pe_callB hc rfl Fx.z_len bt_len ha)) ce_int) (ce_callB cs_len rfl Fx.z_len bt_len (ca_cons (ce_sub G (ce_var 0) ce_int) ca_nil) (fun hc ha => pe_callB hc rfl Fx.z_len bt_len ha)))) co_none))) rfl)))) css_nil)
    (css_cons (cs_for G (ci_seq (ce_lst (ca_cons ce_str (ca_cons ce_str (ca_cons ce_str (ca_cons ce_str (ca_cons ce_str (ca_cons ce_str ca_nil)))))))) (cg_one (i := 5) sc__law_spoilt.nd rfl (Or.inl rfl)) (css_cons (cs_expr (ce_mtL gs_append (ce_var 3) (ca_cons (ce_op os_add (ce_op os_add (ce_op os_add (ce_op os_add (ce_op os_add (ce_op os_add (ce_op os_add (ce_op os_add (ce_var 2) ce_str) (ce_var 5)) ce_str) (ce_sub G (ce_var 0) ce_int)) ce_str) (ce_callT cs_str rfl Fx.z_str bt_str (ca_cons (ce_sub G (ce_var 0) ce_int) ca_nil) (fun hc ha => pe_callTy hc rfl Fx.z_str bt_str ha))) ce_str) (ce_sub G (ce_var 0) ce_int)) ca_nil) (fun hm ho ha => pe_bm PySem.F.plainAttrs_list PySem.F.slot_list_append PySem.F.type_list_append hm ho ha)))
    (css_one (cs_expr (ce_mtL gs_append (ce_var 3) (ca_cons (ce_op os_add (ce_op os_add (ce_op os_add (ce_op os_add (ce_op os_add (ce_op os_add (ce_var 2) ce_str) (ce_sub G (ce_var 0) ce_int)) ce_str) (ce_var 5)) ce_str) (ce_sub G (ce_var 0) ce_int)) ca_nil) (fun hm ho ha => pe_bm PySem.F.plainAttrs_list PySem.F.slot_list_append PySem.F.type_list_append hm ho ha))))))
    (css_one (cs_ret (ce_var 3))))))))))
end
end Lw
namespace Lw
open PySem PySem.Spec PyProof.Rows L2 RZ Dg
section
variable {P : Program} {w : World} {K : PySem.W.Frag} {mg : Str → Option Value} {base : Heap} {ad : Nat → Addr} {fd : Nat → FuncData} {k : Nat} {C : Calls}
theorem ok_law (Fx : Facts K mg w ad fd) (T : Tab P w K mg base ad fd (k + 40) C) : FnOk P w K mg base (L2.CX P w) (k + 41) (ad 12) (fd 12) ["script"] (spF K mg 1 (runDef 7 (b_law C))) :=
  defD_ok (N := N_law) (ps := ["script"]) Fx.F12 sc_law (fun cdv A outer s H E G =>
    (css_cons (cs_set (i := 1) sc_law.nd rfl (Or.inl rfl) (ce_def G (Nat.le_refl _) T.G6 (ca_cons (ce_var 0) ca_nil) (fun hx ha => pe_callS T.G6 G.room rfl Fx.m6 Fx.F6.kp Fx.b6 hx ha)))
    (css_cons (cs_if (ct_cmp (os_ne G) (ce_def G (Nat.le_refl _) T.G5 (ca_cons ce_str ca_nil) (fun hx ha => pe_callS T.G5 G.room rfl Fx.m5 Fx.F5.kp Fx.b5 hx ha)) (ce_tup ca_nil) (nomark _)) (css_one (cs_ret ce_bl)) css_nil)
    (css_cons (cs_for G (ci_seq (ce_def G (Nat.le_refl _) T.G9 (ca_cons (ce_var 1) ca_nil) (fun hx ha => pe_callS T.G9 G.room rfl Fx.m9 Fx.F9.kp Fx.b9 hx ha))) (cg_one (i := 2) sc_law.nd rfl (Or.inl rfl)) (css_cons (cs_set (i := 3) sc_law.nd rfl (Or.inl rfl) (ce_def G (Nat.le_refl _) T.G10 (ca_cons (ce_var 2) ca_nil) (fun hx ha => pe_callS T.G10 G.room rfl Fx.m10 Fx.F10.kp Fx.b10 hx ha)))
    (css_cons (cs_set (i := 4) sc_law.nd rfl (Or.inl rfl) (ce_def G (Nat.le_refl _) T.G5 (ca_cons (ce_var 3) ca_nil) (fun hx ha => pe_callS T.G5 G.room rfl Fx.m5 Fx.F5.kp Fx.b5 hx ha)))
    (css_cons (cs_if (CW.ct (cw_or (ct_not (ct_val (ce_isi kt_tuple (ce_var 4) (pe_bltn rfl Fx.z_tuple bt_tuple rfl) (fun hc ha => pe_callB hc rfl Fx.z_isinstance bt_isinstance ha)))) (cw_or1 (ct_cmp (os_ne G) (ce_var 4) (ce_var 2) (nomark _))))) (css_one (cs_ret ce_bl)) css_nil)
    (css_cons (cs_for G (ci_rg1 rfl Fx.z_range (ce_callB cs_len rfl Fx.z_len bt_len (ca_cons (ce_var 2) ca_nil) (fun hc ha => pe_callB hc rfl Fx.z_len bt_len ha))) (cg_one (i := 5) sc_law.nd rfl (Or.inl rfl)) (css_one (cs_if (CW.ct (cw_or (ct_val (ce_isi kt_bool (ce_sub G (ce_var 4) (ce_var 5)) (pe_bltn rfl Fx.z_bool bt_bool rfl) (fun hc ha => pe_callB hc rfl Fx.z_isinstance bt_isinstance ha))) (cw_or1 (ct_cmp (os_ne G) (ce_isi kt_int (ce_sub G (ce_var 4) (ce_var 5)) (pe_bltn rfl Fx.z_int bt_int rfl) (fun hc ha => pe_callB hc rfl Fx.z_isinstance bt_isinstance ha)) (ce_isi kt_int (ce_sub G (ce_var 2) (ce_var 5)) (pe_bltn rfl Fx.z_int bt_int rfl) (fun hc ha => pe_callB hc rfl Fx.z_isinstance bt_isinstance ha)) (nomark _))))) (css_one (cs_ret ce_bl)) css_nil)))
    (css_one (cs_for G (ci_seq (ce_def G (Nat.le_refl _) T.G11 (ca_cons (ce_var 2) (ca_cons (ce_var 3) ca_nil)) (fun hx ha => pe_callS T.G11 G.room rfl Fx.m11 Fx.F11.kp Fx.b11 hx ha))) (cg_one (i := 6) sc_law.nd rfl (Or.inl rfl)) (css_one (cs_if (ct_cmp os_notN (ce_def G (Nat.le_refl _) T.G5 (ca_cons (ce_var 6) ca_nil) (fun hx ha => pe_callS T.G5 G.room rfl Fx.m5 Fx.F5.kp Fx.b5 hx ha)) ce_non (nomark _)) (css_one (cs_ret ce_bl)) css_nil)))))))))
    (css_one (cs_ret (ce_and (ce_cmp os_isN (ce_def G (Nat.le_refl _) T.G5 (ca_cons ce_str ca_nil) (fun hx ha => pe_callS T.G5 G.room rfl Fx.m5 Fx.F5.kp Fx.b5 hx ha)) ce_non (nomark _)) (ce_and (ce_cmp os_isN (ce_def G (Nat.le_refl _) T.G5 (ca_cons ce_str ca_nil) (fun hx ha => pe_callS T.G5 G.room rfl Fx.m5 Fx.F5.kp Fx.b5 hx ha)) ce_non (nomark _)) (ce_one (ce_cmp os_isN (ce_def G (Nat.le_refl _) T.G5 (ca_cons ce_str ca_nil) (fun hx ha => pe_callS T.G5 G.room rfl Fx.m5 Fx.F5.kp Fx.b5 hx ha)) ce_non (nomark _)))))))))))
end
end Lw
namespace Lw
open PySem PySem.Spec PyProof.Rows L2 RZ Dg
section
variable {P : Program} {w : World} {K : PySem.W.Frag} {mg : Str → Option Value} {base : Heap} {ad : Nat → Addr} {fd : Nat → FuncData} {k : Nat} {C : Calls}
theorem tab_0 (ad : Nat → Addr) (fd : Nat → FuncData) : Tab P w K mg base ad fd 40 (call 0) := ⟨fn_bad, fn_bad, fn_bad, fn_bad, fn_bad, fn_bad, fn_bad, fn_bad, fn_bad, fn_bad, fn_bad, fn_bad, fn_bad⟩
theorem tab_s (Fx : Facts K mg w ad fd) (T : Tab P w K mg base ad fd (k + 40) (call k)) : Tab P w K mg base ad fd (k + 41) (call (k + 1)) :=
  ⟨ok_is_letter Fx T, ok_is_name Fx T, ok_is_number Fx T, ok_fits_field Fx T, ok_read_with_text Fx T, ok_read_command Fx T, ok__law_row Fx T, ok__law_at Fx T, ok__law_name Fx T, ok__law_lines Fx T, ok__law_text Fx T, ok__law_spoilt Fx T, ok_law Fx T⟩
theorem tab (Fx : Facts K mg w ad fd) : ∀ k : Nat, Tab P w K mg base ad fd (k + 40) (call k)
  | 0 => tab_0 ad fd
  | k + 1 => by
    have h := tab_s Fx (tab Fx k)
    rw [show k + 1 + 40 = k + 41 by omega]
    exact h
end
end Lw
namespace Lw
open PySem PySem.Spec PyProof.Rows L2 RZ Dg
def d_is_letter : He.DefD := ⟨("is_letter", none), "is_letter", "is_letter", defArgs s_is_letter, defBody s_is_letter, defScope s_is_letter, [], []⟩
def d_is_name : He.DefD := ⟨("is_name", none), "is_name", "is_name", defArgs s_is_name, defBody s_is_name, defScope s_is_name, [], []⟩
def d_is_number : He.DefD := ⟨("is_number", none), "is_number", "is_number", defArgs s_is_number, defBody s_is_number, defScope s_is_number, [], []⟩
def d_fits_field : He.DefD := ⟨("fits_field", none), "fits_field", "fits_field", defArgs s_fits_field, defBody s_fits_field, defScope s_fits_field, [], []⟩
def d_read_with_text : He.DefD := ⟨("read_with_text", none), "read_with_text", "read_with_text", defArgs s_read_with_text, defBody s_read_with_text, defScope s_read_with_text, [], []⟩
def d_read_command : He.DefD := ⟨("read_command", none), "read_command", "read_command", defArgs s_read_command, defBody s_read_command, defScope s_read_command, [], []⟩
def d__law_row : He.DefD := ⟨("_law_row", none), "_law_row", "_law_row", defArgs s__law_row, defBody s__law_row, defScope s__law_row, [], []⟩
def d__law_at : He.DefD := ⟨("_law_at", none), "_law_at", "_law_at", defArgs s__law_at, defBody s__law_at, defScope s__law_at, [], []⟩
def d__law_name : He.DefD := ⟨("_law_name", none), "_law_name", "_law_name", defArgs s__law_name, defBody s__law_name, defScope s__law_name, [], []⟩
def d__law_lines : He.DefD := ⟨("_law_lines", none), "_law_lines", "_law_lines", defArgs s__law_lines, defBody s__law_lines, defScope s__law_lines, [], []⟩
def d__law_text : He.DefD := ⟨("_law_text", none), "_law_text", "_law_text", defArgs s__law_text, defBody s__law_text, defScope s__law_text, [], []⟩
def d__law_spoilt : He.DefD := ⟨("_law_spoilt", none), "_law_spoilt", "_law_spoilt", defArgs s__law_spoilt, defBody s__law_spoilt, defScope s__law_spoilt, [], []⟩
def d_law : He.DefD := ⟨("law", none), "law", "law", defArgs s_law, defBody s_law, defScope s_law, [], []⟩
def hfn : List He.DefD := [d_is_letter, d_is_name, d_is_number, d_fits_field, d_read_with_text, d_read_command, d__law_row, d__law_at, d__law_name, d__law_lines, d__law_text, d__law_spoilt, d_law]
def hfa : List He.Fa := [.glo "is_letter", .glo "is_name", .glo "is_number", .glo "fits_field", .glo "read_with_text", .glo "read_command", .glo "_law_row", .glo "_law_at", .glo "_law_name", .glo "_law_lines", .glo "_law_text", .glo "_law_spoilt", .glo "law", .glo "FORMS", .free "abs", .free "all", .free "bool", .free "int", .free "isinstance", .free "len", .free "range", .free "str", .free "tuple", .free "zip"]
def hts : List He.Tab := [(fun K => He.ga K "FORMS", ["show", "fill", "run", "same", "differ", "witness", "certify", "twin", "rule", "apply", "simplify", "code", "attack"])]
def hfu : List FaU := [.tab "FORMS" tab_FORMS, .con "MAX_DIGITS" (.int 3), .con "MAX_NAME" (.int 4), .con "RESERVED" (.tup [(.str "skip"), (.str "stop"), (.str "if"), (.str "new"), (.str "proc"), (.str "exit"), (.str "do"), (.str "com"), (.str "exp"), (.str "val")]), .con "WITH_TEXT" (.tup [(.str "let"), (.str "module")]), .keys "FORMS" ["show", "fill", "run", "same", "differ", "witness", "certify", "twin", "rule", "apply", "simplify", "code", "attack"]]
abbrev R : PySem.W.OpenRow := PySem.W.OpenLaw.row PySem.Challenge.rw_doppelganger_k88_commands_read
abbrev hk : PySem.W.Hook := hookU 5 hfa hfn hts hfu
def ob (s : PySem.W.SharedT) : AlU := obsUG 5 hfa hfn hts hfu (HandSHeadRun.getT s)
theorem ob_eq (s : PySem.W.SharedT) : ob s = hk.obs s.abs := obsUG_eq (HandSHeadRun.getT_eq s)
def hloose : List PySem.Str := (["MAX_NAME", "RESERVED", "is_letter", "is_name", "MAX_DIGITS", "FORMS", "WITH_TEXT", "is_number", "fits_field", "read_with_text", "read_command", "_law_row", "_law_at", "_law_name", "_law_lines", "_law_text"] : List PySem.Str) ++ (["_law_spoilt"] : List PySem.Str)
theorem run (w : World) : HandSHeadRun.RunEq R (PySem.W.view R.prog [20]) hk ob 4000 hloose w :=
  PySem.W.byRow2 "special-get-raises" (P := fun w => HandSHeadRun.RunEq R (PySem.W.view R.prog [20]) hk ob 4000 hloose w)
    (fun w => by
      intro os
      kernel_rfl) (fun w => by
      intro os
      kernel_rfl) w
def adOf (K : PySem.W.Frag) : Nat → Addr
  | 0 => He.ga K "is_letter"
  | 1 => He.ga K "is_name"
  | 2 => He.ga K "is_number"
  | 3 => He.ga K "fits_field"
  | 4 => He.ga K "read_with_text"
  | 5 => He.ga K "read_command"
  | 6 => He.ga K "_law_row"
  | 7 => He.ga K "_law_at"
  | 8 => He.ga K "_law_name"
  | 9 => He.ga K "_law_lines"
  | 10 => He.ga K "_law_text"
  | 11 => He.ga K "_law_spoilt"
  | 12 => He.ga K "law"
  | _ => 0
theorem facts {w : World} {K : PySem.W.Frag} {h : Heap} {mg : Str → Option Value} (X : K.In h) (G : h.Ns mainGlobals mg) (c : SaysU hfa hfn hts hfu w K) : ∃ fd : Nat → FuncData, Facts K mg w (adOf K) fd := by
  obtain ⟨f0, F0⟩ := c.t.d.def_ 0 (d := d_is_letter) rfl
  obtain ⟨f1, F1⟩ := c.t.d.def_ 1 (d := d_is_name) rfl
  obtain ⟨f2, F2⟩ := c.t.d.def_ 2 (d := d_is_number) rfl
  obtain ⟨f3, F3⟩ := c.t.d.def_ 3 (d := d_fits_field) rfl
  obtain ⟨f4, F4⟩ := c.t.d.def_ 4 (d := d_read_with_text) rfl
  obtain ⟨f5, F5⟩ := c.t.d.def_ 5 (d := d_read_command) rfl
  obtain ⟨f6, F6⟩ := c.t.d.def_ 6 (d := d__law_row) rfl
  obtain ⟨f7, F7⟩ := c.t.d.def_ 7 (d := d__law_at) rfl
  obtain ⟨f8, F8⟩ := c.t.d.def_ 8 (d := d__law_name) rfl
  obtain ⟨f9, F9⟩ := c.t.d.def_ 9 (d := d__law_lines) rfl
  obtain ⟨f10, F10⟩ := c.t.d.def_ 10 (d := d__law_text) rfl
  obtain ⟨f11, F11⟩ := c.t.d.def_ 11 (d := d__law_spoilt) rfl
  obtain ⟨f12, F12⟩ := c.t.d.def_ 12 (d := d_law) rfl
  obtain ⟨es0, n0, D0⟩ := c.t.tab 0 (t := (fun K => He.ga K "FORMS", ["show", "fill", "run", "same", "differ", "witness", "certify", "twin", "rule", "apply", "simplify", "code", "attack"])) rfl
  refine ⟨fun i => match i with
    | 0 => f0
    | 1 => f1
    | 2 => f2
    | 3 => f3
    | 4 => f4
    | 5 => f5
    | 6 => f6
    | 7 => f7
    | 8 => f8
    | 9 => f9
    | 10 => f10
    | 11 => f11
    | 12 => f12
    | _ => f0, ?_⟩
  exact {
    F0 := F0
    b0 := FunD.bindsN F0 fun _ _ _ _ _ _ us hl => match us, hl with | [_], _ => rfl
    m0 := He.glo_ok X G (c.t.d.fact 0 (f := .glo "is_letter") rfl)
    F1 := F1
    b1 := FunD.bindsN F1 fun _ _ _ _ _ _ us hl => match us, hl with | [_], _ => rfl
    m1 := He.glo_ok X G (c.t.d.fact 1 (f := .glo "is_name") rfl)
    F2 := F2
    b2 := FunD.bindsN F2 fun _ _ _ _ _ _ us hl => match us, hl with | [_], _ => rfl
    m2 := He.glo_ok X G (c.t.d.fact 2 (f := .glo "is_number") rfl)
    F3 := F3
    b3 := FunD.bindsN F3 fun _ _ _ _ _ _ us hl => match us, hl with | [_, _], _ => rfl
    m3 := He.glo_ok X G (c.t.d.fact 3 (f := .glo "fits_field") rfl)
    F4 := F4
    b4 := FunD.bindsN F4 fun _ _ _ _ _ _ us hl => match us, hl with | [_], _ => rfl
    m4 := He.glo_ok X G (c.t.d.fact 4 (f := .glo "read_with_text") rfl)
    F5 := F5
    b5 := FunD.bindsN F5 fun _ _ _ _ _ _ us hl => match us, hl with | [_], _ => rfl
    m5 := He.glo_ok X G (c.t.d.fact 5 (f := .glo "read_command") rfl)
    F6 := F6
    b6 := FunD.bindsN F6 fun _ _ _ _ _ _ us hl => match us, hl with | [_], _ => rfl
    m6 := He.glo_ok X G (c.t.d.fact 6 (f := .glo "_law_row") rfl)
    F7 := F7
    b7 := FunD.bindsN F7 fun _ _ _ _ _ _ us hl => match us, hl with | [_, _], _ => rfl
    m7 := He.glo_ok X G (c.t.d.fact 7 (f := .glo "_law_at") rfl)
    F8 := F8
    b8 := FunD.bindsN F8 fun _ _ _ _ _ _ us hl => match us, hl with | [_], _ => rfl
    m8 := He.glo_ok X G (c.t.d.fact 8 (f := .glo "_law_name") rfl)
    F9 := F9
    b9 := FunD.bindsN F9 fun _ _ _ _ _ _ us hl => match us, hl with | [_], _ => rfl
    m9 := He.glo_ok X G (c.t.d.fact 9 (f := .glo "_law_lines") rfl)
    F10 := F10
    b10 := FunD.bindsN F10 fun _ _ _ _ _ _ us hl => match us, hl with | [_], _ => rfl
    m10 := He.glo_ok X G (c.t.d.fact 10 (f := .glo "_law_text") rfl)
    F11 := F11
    b11 := FunD.bindsN F11 fun _ _ _ _ _ _ us hl => match us, hl with | [_, _], _ => rfl
    m11 := He.glo_ok X G (c.t.d.fact 11 (f := .glo "_law_spoilt") rfl)
    F12 := F12
    b12 := FunD.bindsN F12 fun _ _ _ _ _ _ us hl => match us, hl with | [_], _ => rfl
    m12 := He.glo_ok X G (c.t.d.fact 12 (f := .glo "law") rfl)
    z_abs := He.free_ok X G (c.t.d.fact 14 (f := .free "abs") rfl)
    z_all := He.free_ok X G (c.t.d.fact 15 (f := .free "all") rfl)
    z_bool := He.free_ok X G (c.t.d.fact 16 (f := .free "bool") rfl)
    z_int := He.free_ok X G (c.t.d.fact 17 (f := .free "int") rfl)
    z_isinstance := He.free_ok X G (c.t.d.fact 18 (f := .free "isinstance") rfl)
    z_len := He.free_ok X G (c.t.d.fact 19 (f := .free "len") rfl)
    z_range := He.free_ok X G (c.t.d.fact 20 (f := .free "range") rfl)
    z_str := He.free_ok X G (c.t.d.fact 21 (f := .free "str") rfl)
    z_tuple := He.free_ok X G (c.t.d.fact 22 (f := .free "tuple") rfl)
    z_zip := He.free_ok X G (c.t.d.fact 23 (f := .free "zip") rfl)
    c_FORMS := tab_ok X G (c.f 0 (f := .tab "FORMS" tab_FORMS) rfl) (c.t.d.fact 13 (f := .glo "FORMS") rfl) D0
    c_MAX_DIGITS := con_ok X G (c.f 1 (f := .con "MAX_DIGITS" (.int 3)) rfl)
    c_MAX_NAME := con_ok X G (c.f 2 (f := .con "MAX_NAME" (.int 4)) rfl)
    c_RESERVED := con_ok X G (c.f 3 (f := .con "RESERVED" (.tup [(.str "skip"), (.str "stop"), (.str "if"), (.str "new"), (.str "proc"), (.str "exit"), (.str "do"), (.str "com"), (.str "exp"), (.str "val")])) rfl)
    c_WITH_TEXT := con_ok X G (c.f 4 (f := .con "WITH_TEXT" (.tup [(.str "let"), (.str "module")])) rfl)
    k_FORMS := kin_ok X G (c.t.d.fact 13 (f := .glo "FORMS") rfl) (c.f 5 (f := .keys "FORMS" ["show", "fill", "run", "same", "differ", "witness", "certify", "twin", "rule", "apply", "simplify", "code", "attack"]) rfl) D0
  }
end Lw
namespace Lw
open PySem PySem.Spec PyProof.Rows L2 RZ Dg
section
variable {s : Slots} {μ : Mem} {Q : U → Mem → Prop} {E : Str → Mem → Prop}
theorem w_powI {i j : Int} : wpE (uPow (.int i) (.int j) μ) Q E = ((0 ≤ j ∧ j ≤ 1000000 ∧ i.natAbs < 2 ^ 64) ∧ Q (.int (i ^ j.toNat)) μ) := by
  show wpE (if 0 ≤ j ∧ j ≤ 1000000 ∧ i.natAbs < 2 ^ 64 then _ else _) Q E = _
  split
  · rename_i h; simp only [h, wpE, true_and]
  · rename_i h; simp only [h, wpE, false_and]
theorem w_isi {T : String} {a : FE} : wpE (fIsi T a s μ) Q E = wpE (a s μ) (fun u μ1 => ∃ t, tyU μ1 u = some t ∧ Q (.bl (isTy T t)) μ1) E := by
  unfold fIsi; rw [w_bind]; congr 1; funext u μ1
  cases tyU μ1 u <;> simp [wpE]
theorem w_neg {a : FE} : wpE (fNeg a s μ) Q E = wpE (a s μ) (fun u μ1 => ∃ i, u = .int i ∧ Q (.int (-i)) μ1) E := by
  unfold fNeg; rw [w_bind]; congr 1; funext u μ1
  cases u <;> simp [wpE]
theorem w_andE {a b : FE} : wpE (fAnd a b s μ) Q E = wpE (a s μ) (fun u μ1 => ∃ c, u = .bl c ∧ if c = true then wpE (b s μ1) Q E else Q (.bl false) μ1) E := by
  unfold fAnd; rw [w_bind]; congr 1; funext u μ1
  cases u with
  | bl c => cases c <;> simp [wpE]
  | _ => simp [wpE]
theorem w_orE {a b : FE} : wpE (fOr a b s μ) Q E = wpE (a s μ) (fun u μ1 => ∃ c, u = .bl c ∧ if c = true then Q (.bl true) μ1 else wpE (b s μ1) Q E) E := by
  unfold fOr; rw [w_bind]; congr 1; funext u μ1
  cases u with
  | bl c => cases c <;> simp [wpE]
  | _ => simp [wpE]
theorem w_notE {a : FE} : wpE (fNot a s μ) Q E = wpE (a s μ) (fun u μ1 => ∃ c, u = .bl c ∧ Q (.bl (!c)) μ1) E := by
  unfold fNot; rw [w_bind]; congr 1; funext u μ1
  cases u <;> simp [wpE]
theorem w_chain {f g : U → U → Mem → Res U} {a b c : FE} : wpE (fChain f g a b c s μ) Q E = wpE (a s μ) (fun x μ1 => wpE (b s μ1) (fun y μ2 => wpE (f x y μ2) (fun z μ3 => ∃ t, z = .bl t ∧ if t = true then wpE (c s μ3) (fun w μ4 => wpE (g y w μ4) Q E) E else Q (.bl false) μ3) E) E) E := by
  unfold fChain; rw [w_bind]; congr 1; funext x μ1; rw [w_bind]; congr 1; funext y μ2; rw [w_bind]; congr 1; funext z μ3
  cases z with
  | bl t =>
    cases t with
    | false => simp [wpE]
    | true =>
      show wpE ((c s μ3).bind fun w μ4 => g y w μ4) Q E = _
      rw [w_bind]
      simp
  | _ => simp [wpE]
theorem s_raise {x : Str} {a : FE} {D : Dn} : wpS (sRaise x a s μ) D = wpE (a s μ) (fun u μ1 => D.ex x s μ1) (fun c μ => D.ex c s μ) := by
  unfold sRaise; rw [w_ofR]
  rfl
theorem ty_L {r : Nat} {us : List U} (h : μ[r]? = some (.lst us)) : tyU μ (.ref r) = some "list" := by unfold tyU; simp only [h]
theorem ty_T {us : List U} : tyU μ (.tup us) = some "tuple" := rfl
theorem ty_I {i : Int} : tyU μ (.int i) = some "int" := rfl
theorem ty_B {b : Bool} : tyU μ (.bl b) = some "bool" := rfl
theorem tru_b {b : Bool} : truU μ (.bl b) = some b := rfl
theorem truL {r : Nat} {us : List U} (h : μ[r]? = some (.lst us)) : truU μ (.ref r) = some (!us.isEmpty) := by
  unfold truU; simp only [h]
end

/-- all cells stay -/
structure Fr (μ μ' : Mem) : Prop where
  le : μ.length ≤ μ'.length
  at_ : ∀ (i : Nat) (c : Cell), μ[i]? = some c → μ'[i]? = some c
section
variable {μ μ' μ'' : Mem}
theorem Fr.refl : Fr μ μ := ⟨Nat.le_refl _, fun _ _ h => h⟩
theorem Fr.trans (a : Fr μ μ') (b : Fr μ' μ'') : Fr μ μ'' := ⟨Nat.le_trans a.le b.le, fun i c h => b.at_ i c (a.at_ i c h)⟩
theorem Fr.snoc {c : Cell} (a : Fr μ μ') : Fr μ (μ' ++ [c]) := ⟨by have := a.le; simp; omega, fun i d h => get_snoc_lt (a.at_ i d h)⟩
theorem Fr.put {c : Cell} {i : Nat} (a : Fr μ μ') (h : μ.length ≤ i) : Fr μ (μ'.set i c) := ⟨by simpa using a.le, fun j d hj => get_set_ne (a.at_ j d hj) (by have := get_lt hj; omega)⟩
end
section
variable {s : Slots} {μ : Mem} {Q : U → Mem → Prop} {E : Str → Mem → Prop}
theorem w_sl {a : FE} {lo hi : FO} : wpE (fSl a lo hi s μ) Q E = wpE (a s μ) (fun u μ1 => wpE (lo s μ1) (fun l μ2 => wpE (hi s μ2) (fun h μ3 => wpE (slU u l h μ3) Q E) E) E) E := by
  unfold fSl; rw [w_bind]; congr 1; funext u μ1; rw [w_bind]; congr 1; funext l μ2; rw [w_bind]
theorem w_oNone {Q : Option Int → Mem → Prop} : wpE (oNone s μ) Q E = Q none μ := propext ⟨fun h => h, fun h => h⟩
theorem w_oSome {a : FE} {Q : Option Int → Mem → Prop} : wpE (oSome a s μ) Q E = wpE (a s μ) (fun u μ1 => ∃ i, u = .int i ∧ Q (some i) μ1) E := by
  unfold oSome; rw [w_bind]; congr 1; funext u μ1
  cases u <;> simp [wpE]
theorem sl_L {r : Nat} {us : List U} {lo hi : Option Int} (h : μ[r]? = some (.lst us)) : slU (.ref r) lo hi μ = .ok (.ref μ.length) (μ ++ [.lst (cutU us lo hi)]) := by
  unfold slU; simp only [lstU_L h]
theorem w_slL {r : Nat} {us : List U} {lo hi : Option Int} (h : μ[r]? = some (.lst us)) : wpE (slU (.ref r) lo hi μ) Q E = Q (.ref μ.length) (μ ++ [.lst (cutU us lo hi)]) := by rw [sl_L h]; rfl
theorem w_slT {us : List U} {lo hi : Option Int} : wpE (slU (.tup us) lo hi μ) Q E = Q (.tup (cutU us lo hi)) μ := propext ⟨fun h => h, fun h => h⟩
theorem w_slF {us : List U} {lo hi : Option Int} : wpE (slU (.frl us) lo hi μ) Q E = Q (.ref μ.length) (μ ++ [.lst (cutU us lo hi)]) := propext ⟨fun h => h, fun h => h⟩
theorem w_ixF {us : List U} {i : Int} : wpE (ixU (.frl us) (.int i) μ) Q E = ∃ a, atI us i = some a ∧ Q a μ := w_res
theorem w_lenF {us : List U} : wpE (bLen [.frl us] μ) Q E = Q (.int us.length) μ := propext ⟨fun h => h, fun h => h⟩
theorem w_lenS {z : Str} : wpE (bLen [.str z] μ) Q E = (z.length ≤ lim ∧ Q (.int z.length) μ) := by
  by_cases h : z.length ≤ lim
  · have : bLen [.str z] μ = .ok (.int z.length) μ := by unfold bLen lenU; simp only [h, if_true]
    rw [this]; simp [wpE, h]
  · have : bLen [.str z] μ = .bad := by unfold bLen lenU; simp only [h, if_false]
    rw [this]; simp [wpE, h]
theorem w_abs {i : Int} : wpE (bAbs [.int i] μ) Q E = Q (.int i.natAbs) μ := by
  show Q (.int (if i < 0 then -i else i)) μ = _
  congr 2; split <;> omega
theorem w_max2 {i j : Int} : wpE (bMax [.int i, .int j] μ) Q E = Q (.int (max i j)) μ := by
  show Q (.int (if j > i then j else i)) μ = _
  congr 2; split <;> omega
theorem w_min2 {i j : Int} : wpE (bMin [.int i, .int j] μ) Q E = Q (.int (min i j)) μ := by
  show Q (.int (if j < i then j else i)) μ = _
  congr 2; split <;> omega
end
theorem s_tryAs {tab : List (Str × Bool)} {i : Nat} {b : FS} {ms : Str → FE} {s : Slots} {μ : Mem} {D : Dn} : wpS (sTryAs tab i b ms s μ) D = wpS (b s μ) { D with ex := fun c s1 μ1 => ∃ t, tab.lookup c = some t ∧ if t = true then i < s1.length ∧ wpE (ms c (s1.set i none) μ1) (fun u μ2 => D.rt u μ2) (fun c μ => D.ex c (s1.set i none) μ) else D.ex c s1 μ1 } := by
  unfold sTryAs
  cases b s μ with
  | ex c s1 μ1 =>
    show Dg.wpS (match tab.lookup c with
      | some true => _
      | some false => _
      | none => _) D = ∃ t, tab.lookup c = some t ∧ _
    cases tab.lookup c with
    | none => simp [Dg.wpS]
    | some t =>
      cases t with
      | false => simp [Dg.wpS]
      | true =>
        simp only [Option.some.injEq, exists_eq_left', if_true]
        split
        · rename_i h; simp only [h, true_and]; exact w_ofR
        · rename_i h; simp [h, Dg.wpS]
  | _ => rfl
theorem s_try {tab : List (Str × Bool)} {b u : FS} {s : Slots} {μ : Mem} {D : Dn} : wpS (sTry tab b u s μ) D = wpS (b s μ) { D with ex := fun c s1 μ1 => ∃ t, tab.lookup c = some t ∧ if t = true then wpS (u s1 μ1) D else D.ex c s1 μ1 } := by
  unfold sTry
  cases b s μ with
  | ex c s1 μ1 =>
    show Dg.wpS (match tab.lookup c with
      | some true => _
      | some false => _
      | none => _) D = ∃ t, tab.lookup c = some t ∧ _
    cases tab.lookup c with
    | none => simp [Dg.wpS]
    | some t =>
      cases t with
      | false => simp [Dg.wpS]
      | true => simp
  | _ => rfl
theorem w_isX {tab : List (Str × Bool)} {c : Str} {s : Slots} {μ : Mem} {Q : U → Mem → Prop} {E : Str → Mem → Prop} : wpE (fIsX tab c s μ) Q E = ∃ b, tab.lookup c = some b ∧ Q (.bl b) μ := by
  unfold fIsX
  cases tab.lookup c with
  | none => simp [wpE]
  | some b => simp [w_c]
/-! texts with places -/
theorem strOk_of (x : String) : PyData.strOk (Str.ofString x) = true := by
  rw [Str.ofString_eq_toList]
  unfold PyData.strOk
  rw [Array.all_eq_true']
  intro c hc
  simp only [List.mem_toArray, List.mem_map] at hc
  obtain ⟨ch, _, rfl⟩ := hc
  have := ch.valid
  simp only [decide_eq_true_eq]
  rcases this with h | h
  · exact Nat.lt_of_lt_of_le h (by decide)
  · exact h.2
def fmtOk (u : U) (y : Str) : Prop := (u = .str y ∧ y.length ≤ lim) ∨ ∃ i : Int, u = .int i ∧ i.natAbs.log2 < 1920 ∧ y = (toString i : Str)
section
variable {s : Slots} {μ : Mem} {Q : U → Mem → Prop} {E : Str → Mem → Prop}
theorem w_fmt {a : FE} : wpE (fFmt a s μ) Q E = wpE (a s μ) (fun u μ1 => ∃ y, fmtOk u y ∧ Q (.str y) μ1) E := by
  unfold fFmt; rw [w_bind]; congr 1; funext u μ1
  cases u with
  | str y =>
    apply propext
    constructor
    · intro h
      simp only at h
      split at h
      · rename_i hl; exact ⟨y, .inl ⟨rfl, hl⟩, h⟩
      · exact h.elim
    · rintro ⟨z, h | ⟨i, h, _⟩, q⟩
      · cases h.1; simp only [h.2, if_true]; exact q
      · cases h
  | int i =>
    apply propext
    constructor
    · intro h
      simp only at h
      split at h
      · rename_i hl; exact ⟨_, .inr ⟨i, rfl, hl.1, rfl⟩, h⟩
      · exact h.elim
    · rintro ⟨z, h | ⟨j, h, h2, h3⟩, q⟩
      · cases h.1
      · cases h; subst h3; simp only [h2, strOk_of, and_self, if_true]; exact q
  | _ =>
    apply propext
    constructor
    · intro h; exact h.elim
    · rintro ⟨z, h | ⟨j, h, h2, h3⟩, q⟩
      · cases h.1
      · cases h
theorem w_js0 {acc : Str} : wpE (fJs [] acc s μ) Q E = Q (.str acc) μ := propext ⟨fun h => h, fun h => h⟩
theorem w_js {p : FE} {ps : List FE} {acc : Str} : wpE (fJs (p :: ps) acc s μ) Q E = wpE (p s μ) (fun u μ1 => ∃ y, u = .str y ∧ (acc ++ y).length ≤ lim ∧ wpE (fJs ps (acc ++ y) s μ1) Q E) E := by
  show wpE ((p s μ).bind _) Q E = _
  rw [w_bind]; congr 1; funext u μ1
  cases u with
  | str y =>
    simp only [U.str.injEq, exists_eq_left']
    split
    · rename_i h; simp [h]
    · rename_i h; simp [h, wpE]
  | _ => simp [wpE]
theorem len_app (a b : Str) : (a ++ b).length = a.length + b.length := by
  show (a.cps ++ b.cps).size = a.cps.size + b.cps.size
  simp
theorem fmt_str {y : Str} (h : y.length ≤ lim) : fmtOk (.str y) y := .inl ⟨rfl, h⟩
theorem fmt_int {i : Int} (h : i.natAbs < 2 ^ 64) : fmtOk (.int i) (toString i : Str) := .inr ⟨i, rfl, by
  have := Nat.log2_lt (n := i.natAbs) (k := 64)
  by_cases z : i.natAbs = 0
  · rw [z]; decide
  · have := (this z).mpr h
    omega, rfl⟩
end
/-! what is pure: data without lists; == of it -/
mutual
def sz : U → Nat
  | .tup us => 1 + szs us
  | _ => 1
def szs : List U → Nat
  | [] => 0
  | u :: us => sz u + szs us
end
mutual
def dp : U → Nat
  | .tup us => dps us + 1
  | _ => 0
def dps : List U → Nat
  | [] => 0
  | u :: us => max (dp u) (dps us)
end
mutual
def pu : U → Bool
  | .tup us => pus us
  | .str _ => true
  | .int _ => true
  | .bl _ => true
  | .non => true
  | _ => false
def pus : List U → Bool
  | [] => true
  | u :: us => pu u && pus us
end
mutual
theorem pu_data {u : U} (h : pu u = true) : ∃ d : PyData, (∀ g, toD g u = some d) ∧ PyData.eqv d d = true ∧ d.depth = dp u := by
  cases u with
  | tup us =>
    obtain ⟨ds, h1, h2, h3⟩ := pus_data (us := us) (by simpa [pu] using h)
    exact ⟨.tuple ds, fun g => by simp [toD, h1], by simpa [PyData.eqv] using h2, by simp [PyData.depth, dp, h3]⟩
  | str s => exact ⟨.str s, fun g => rfl, by simp [PyData.eqv], by simp [PyData.depth, dp]⟩
  | int i => exact ⟨.int i, fun g => rfl, by simp [PyData.eqv], by simp [PyData.depth, dp]⟩
  | bl b => exact ⟨.bool b, fun g => rfl, by simp [PyData.eqv], by simp [PyData.depth, dp]⟩
  | non => exact ⟨.none, fun g => rfl, by simp [PyData.eqv], by simp [PyData.depth, dp]⟩
  | _ => simp [pu] at h
theorem pus_data {us : List U} (h : pus us = true) : ∃ ds : List PyData, (∀ g, toDs g us = some ds) ∧ PyData.eqvAll ds ds = true ∧ PyData.depthAll ds = dps us := by
  cases us with
  | nil => exact ⟨[], fun g => rfl, rfl, rfl⟩
  | cons u us =>
    obtain ⟨h1, h2⟩ : pu u = true ∧ pus us = true := by simpa [pus] using h
    obtain ⟨d, a1, a2, a3⟩ := pu_data h1
    obtain ⟨ds, b1, b2, b3⟩ := pus_data h2
    exact ⟨d :: ds, fun g => by simp [toDs, a1, b1], by simp [PyData.eqvAll, a2, b2], by simp [PyData.depthAll, dps, a3, b3]⟩
end
/-- == of the same -/
theorem eq_self {u : U} {μ : Mem} (h : pu u = true) (hd : dp u ≤ 800) : eqU u u μ = some true := by
  obtain ⟨d, a, b, c⟩ := pu_data h
  unfold Dg.eqU datU
  simp only [a]
  rw [if_pos (by rw [c]; simp [eqLim]; omega), b]
/-- == of two lists of the same -/
theorem eq_lists {r1 r2 : Nat} {us : List U} {μ : Mem} (h1 : μ[r1]? = some (.lst us)) (h2 : μ[r2]? = some (.lst us)) (h : pus us = true) (hd : dps us ≤ 799) : eqU (.ref r1) (.ref r2) μ = some true := by
  obtain ⟨ds, a, b, c⟩ := pus_data h
  have e1 : datU μ (.ref r1) = some (.list ds) := by simp [datU, toD, refD, h1, a]
  have e2 : datU μ (.ref r2) = some (.list ds) := by simp [datU, toD, refD, h2, a]
  unfold Dg.eqU
  simp only [e1, e2]
  rw [if_pos (by simp [PyData.depth, c, eqLim]; omega)]
  simp [PyData.eqv, b]
/-! the same without truth values: == is = -/
mutual
def pd : U → Bool
  | .tup us => pds us
  | .str _ => true
  | .int _ => true
  | .non => true
  | _ => false
def pds : List U → Bool
  | [] => true
  | u :: us => pd u && pds us
end
mutual
theorem pd_pu {u : U} (h : pd u = true) : pu u = true := by
  cases u with
  | tup us => simp only [pu]; exact pds_pus (by simpa [pd] using h)
  | str s => rfl
  | int i => rfl
  | non => rfl
  | _ => simp [pd] at h
theorem pds_pus {us : List U} (h : pds us = true) : pus us = true := by
  cases us with
  | nil => rfl
  | cons u us =>
    obtain ⟨h1, h2⟩ : pd u = true ∧ pds us = true := by simpa [pds] using h
    simp [pus, pd_pu h1, pds_pus h2]
end
mutual
theorem pd_eq {u w : U} {g : Nat → Option PyData} {d e : PyData} (hu : pd u = true) (hw : pd w = true) (du : toD g u = some d) (dw : toD g w = some e) : PyData.eqv d e = true ↔ u = w := by
  cases u with
  | tup us =>
    simp only [toD, Option.map_eq_some_iff] at du
    obtain ⟨ds, du, rfl⟩ := du
    cases w with
    | tup ws =>
      simp only [toD, Option.map_eq_some_iff] at dw
      obtain ⟨es, dw, rfl⟩ := dw
      have := pds_eq (by simpa [pd] using hu) (by simpa [pd] using hw) du dw
      simp only [PyData.eqv, this, U.tup.injEq]
    | str s => cases dw; simp [PyData.eqv]
    | int i => cases dw; simp [PyData.eqv]
    | non => cases dw; simp [PyData.eqv]
    | _ => simp [pd] at hw
  | str s =>
    cases du
    cases w with
    | tup ws =>
      simp only [toD, Option.map_eq_some_iff] at dw
      obtain ⟨es, dw, rfl⟩ := dw
      simp [PyData.eqv]
    | str s => cases dw; simp [PyData.eqv]
    | int i => cases dw; simp [PyData.eqv]
    | non => cases dw; simp [PyData.eqv]
    | _ => simp [pd] at hw
  | int s =>
    cases du
    cases w with
    | tup ws =>
      simp only [toD, Option.map_eq_some_iff] at dw
      obtain ⟨es, dw, rfl⟩ := dw
      simp [PyData.eqv]
    | str s => cases dw; simp [PyData.eqv]
    | int i => cases dw; simp [PyData.eqv]
    | non => cases dw; simp [PyData.eqv]
    | _ => simp [pd] at hw
  | non =>
    cases du
    cases w with
    | tup ws =>
      simp only [toD, Option.map_eq_some_iff] at dw
      obtain ⟨es, dw, rfl⟩ := dw
      simp [PyData.eqv]
    | str s => cases dw; simp [PyData.eqv]
    | int i => cases dw; simp [PyData.eqv]
    | non => cases dw; simp [PyData.eqv]
    | _ => simp [pd] at hw
  | _ => simp [pd] at hu
theorem pds_eq {us ws : List U} {g : Nat → Option PyData} {ds es : List PyData} (hu : pds us = true) (hw : pds ws = true) (du : toDs g us = some ds) (dw : toDs g ws = some es) : PyData.eqvAll ds es = true ↔ us = ws := by
  cases us with
  | nil =>
    cases du
    cases ws with
    | nil => cases dw; simp [PyData.eqvAll]
    | cons w ws =>
      simp only [toDs] at dw
      split at dw
      · cases dw; simp [PyData.eqvAll]
      · cases dw
  | cons u us =>
    obtain ⟨h1, h2⟩ : pd u = true ∧ pds us = true := by simpa [pds] using hu
    simp only [toDs] at du
    split at du
    · rename_i d ds' d1 d2
      cases du
      cases ws with
      | nil => cases dw; simp [PyData.eqvAll]
      | cons w ws =>
        obtain ⟨k1, k2⟩ : pd w = true ∧ pds ws = true := by simpa [pds] using hw
        simp only [toDs] at dw
        split at dw
        · rename_i e es' e1 e2
          cases dw
          simp only [PyData.eqvAll, Bool.and_eq_true, pd_eq h1 k1 d1 e1, pds_eq h2 k2 d2 e2, List.cons.injEq]
        · cases dw
    · cases du
end
/-- == of data without truth values -/
theorem eq_pd {u w : U} {μ : Mem} (hu : pd u = true) (hw : pd w = true) (hd : min (dp u) (dp w) ≤ 800) : ∃ b, eqU u w μ = some b ∧ (b = true ↔ u = w) := by
  obtain ⟨d, a, _, c⟩ := pu_data (pd_pu hu)
  obtain ⟨e, a2, _, c2⟩ := pu_data (pd_pu hw)
  refine ⟨PyData.eqv d e, ?_, pd_eq hu hw (a (fun _ => none)) (a2 _)⟩
  unfold Dg.eqU datU
  simp only [a, a2]
  rw [if_pos (by rw [c, c2]; simp [eqLim]; omega)]
theorem eq_lpd {r1 r2 : Nat} {us ws : List U} {μ : Mem} (h1 : μ[r1]? = some (.lst us)) (h2 : μ[r2]? = some (.lst ws)) (hu : pds us = true) (hw : pds ws = true) (hd : min (dps us) (dps ws) ≤ 799) : ∃ b, eqU (.ref r1) (.ref r2) μ = some b ∧ (b = true ↔ us = ws) := by
  obtain ⟨ds, a, _, c⟩ := pus_data (pds_pus hu)
  obtain ⟨es, a2, _, c2⟩ := pus_data (pds_pus hw)
  have e1 : datU μ (.ref r1) = some (.list ds) := by simp [datU, toD, refD, h1, a]
  have e2 : datU μ (.ref r2) = some (.list es) := by simp [datU, toD, refD, h2, a2]
  refine ⟨PyData.eqv (.list ds) (.list es), ?_, ?_⟩
  · unfold Dg.eqU
    simp only [e1, e2]
    rw [if_pos (by simp [PyData.depth, c, c2, eqLim]; omega)]
  · simp only [PyData.eqv]
    exact pds_eq hu hw (a (fun _ => none)) (a2 _)
/-- the run ends and gives True -/
structure Yes (r : Res U) : Prop where
  ap : ∃ μ, r = .ok (.bl true) μ
theorem Yes.of {r : Res U} (h : wpE r (fun u _ => u = .bl true) (fun _ _ => False)) : Yes r := by
  obtain ⟨a, μ', e, rfl⟩ := wpE.get h
  exact ⟨μ', e⟩
/-! loops by what they walk -/
section
variable {s : Slots} {μ : Mem} {D : Dn} {g : Tgt} {b : FS}
theorem for_rng {m : Nat} (n : Nat) (I : Nat → Slots → Mem → Prop) (hm : m = n) (hn : n < 1000000) (h0 : I 0 s μ)
    (step : ∀ i s μ, i < n → I i s μ → ∃ s1, setT g (.int (i : Int)) s = some s1 ∧ Dg.wpS (b s1 μ) ⟨I (i + 1), D.rt, D.nx, I (i + 1), D.ex⟩) (fin : ∀ s μ, I n s μ → D.nx s μ) : Dg.wpS (sForGo g b fuelF (.rng 0 1 m) 0 s μ) D := by
  subst hm
  refine for_go (fun i s μ => i ≤ m ∧ I i s μ) m hn ⟨by omega, h0⟩ (fun i s μ h => h.1) ?_
  rintro i s μ ⟨hi, h⟩
  rw [item_rng]
  by_cases e : i < m
  · right
    obtain ⟨s1, e1, e2⟩ := step i s μ e h
    refine ⟨_, s1, by rw [if_pos e], by rw [show (0 : Int) + (i : Int) * 1 = (i : Int) by omega]; exact e1, wpS.mono e2 (fun _ _ q => ⟨by omega, q⟩) (fun _ _ q => q) (fun _ _ q => q) (fun _ _ q => ⟨by omega, q⟩) fun _ _ _ q => q⟩
  · left
    have : i = m := by omega
    subst this
    exact ⟨by rw [if_neg e], fin s μ h⟩
theorem for_seq {us : List U} (I : Nat → Slots → Mem → Prop) (hn : us.length < 1000000) (h0 : I 0 s μ)
    (step : ∀ i s μ (h : i < us.length), I i s μ → ∃ s1, setT g us[i] s = some s1 ∧ Dg.wpS (b s1 μ) ⟨I (i + 1), D.rt, D.nx, I (i + 1), D.ex⟩) (fin : ∀ s μ, I us.length s μ → D.nx s μ) : Dg.wpS (sForGo g b fuelF (.seq us) 0 s μ) D := by
  refine for_go (fun i s μ => i ≤ us.length ∧ I i s μ) us.length hn ⟨by omega, h0⟩ (fun i s μ h => h.1) ?_
  rintro i s μ ⟨hi, h⟩
  rw [item_seq]
  by_cases e : i < us.length
  · right
    obtain ⟨s1, e1, e2⟩ := step i s μ e h
    exact ⟨us[i], s1, by rw [List.getElem?_eq_getElem e], e1, wpS.mono e2 (fun _ _ q => ⟨by omega, q⟩) (fun _ _ q => q) (fun _ _ q => q) (fun _ _ q => ⟨by omega, q⟩) fun _ _ _ q => q⟩
  · left
    have : i = us.length := by omega
    subst this
    exact ⟨by rw [List.getElem?_eq_none (by omega)], fin s μ h⟩
theorem for_live {r : Nat} (us : List U) (I : Nat → Slots → Mem → Prop) (hn : us.length < 1000000) (h0 : I 0 s μ) (hc : ∀ i s μ, I i s μ → μ[r]? = some (.lst us))
    (step : ∀ i s μ (h : i < us.length), I i s μ → ∃ s1, setT g us[i] s = some s1 ∧ Dg.wpS (b s1 μ) ⟨I (i + 1), D.rt, D.nx, I (i + 1), D.ex⟩) (fin : ∀ s μ, I us.length s μ → D.nx s μ) : Dg.wpS (sForGo g b fuelF (.live r) 0 s μ) D := by
  refine for_go (fun i s μ => i ≤ us.length ∧ I i s μ) us.length hn ⟨by omega, h0⟩ (fun i s μ h => h.1) ?_
  rintro i s μ ⟨hi, h⟩
  rw [item_live (hc i s μ h)]
  by_cases e : i < us.length
  · right
    obtain ⟨s1, e1, e2⟩ := step i s μ e h
    exact ⟨us[i], s1, by rw [List.getElem?_eq_getElem e], e1, wpS.mono e2 (fun _ _ q => ⟨by omega, q⟩) (fun _ _ q => q) (fun _ _ q => q) (fun _ _ q => ⟨by omega, q⟩) fun _ _ _ q => q⟩
  · left
    have : i = us.length := by omega
    subst this
    exact ⟨by rw [List.getElem?_eq_none (by omega)], fin s μ h⟩
end
section
variable {own : List Nat} {g : Tgt} {t : FT} {e : FE} {s : Slots} {d : Nat} {μ : Mem} {Q : U → Mem → Prop} {E : Str → Mem → Prop}
theorem lc_rng {m : Nat} (n : Nat) (I : Nat → Mem → Prop) (hm : m = n) (hn : n < 1000000) (h0 : I 0 μ)
    (step : ∀ i μ, i < n → I i μ → ∃ s1, setT g (.int (i : Int)) (wipeU s own) = some s1 ∧
      wpE (t s1 μ) (fun b μ3 => if b = true then wpE (e s1 μ3) (fun v μ4 => ∃ acc, μ4[d]? = some (.lst acc) ∧ acc.length < lim ∧ I (i + 1) (μ4.set d (.lst (acc ++ [v])))) (fun _ _ => False) else I (i + 1) μ3) (fun _ _ => False))
    (fin : ∀ μ, I n μ → Q (.ref d) μ) : wpE (lcGo (.rng 0 1 m) own g t e s d fuelF 0 μ) Q E := by
  subst hm
  refine lc_go (fun i μ => i ≤ m ∧ I i μ) m hn ⟨by omega, h0⟩ (fun i μ h => h.1) ?_
  rintro i μ ⟨hi, h⟩
  rw [item_rng]
  by_cases h1 : i < m
  · right
    obtain ⟨s1, e1, e2⟩ := step i μ h1 h
    refine ⟨_, s1, by rw [if_pos h1], by rw [show (0 : Int) + (i : Int) * 1 = (i : Int) by omega]; exact e1, wpE.mono e2 fun b μ3 q => ?_⟩
    cases b with
    | false => exact ⟨by omega, q⟩
    | true => exact wpE.mono q fun v μ4 ⟨acc, a1, a2, a3⟩ => ⟨acc, a1, a2, by omega, a3⟩
  · left
    have : i = m := by omega
    subst this
    exact ⟨by rw [if_neg h1], fin μ h⟩
theorem lc_seq {us : List U} (I : Nat → Mem → Prop) (hn : us.length < 1000000) (h0 : I 0 μ)
    (step : ∀ i μ (h : i < us.length), I i μ → ∃ s1, setT g us[i] (wipeU s own) = some s1 ∧
      wpE (t s1 μ) (fun b μ3 => if b = true then wpE (e s1 μ3) (fun v μ4 => ∃ acc, μ4[d]? = some (.lst acc) ∧ acc.length < lim ∧ I (i + 1) (μ4.set d (.lst (acc ++ [v])))) (fun _ _ => False) else I (i + 1) μ3) (fun _ _ => False))
    (fin : ∀ μ, I us.length μ → Q (.ref d) μ) : wpE (lcGo (.seq us) own g t e s d fuelF 0 μ) Q E := by
  refine lc_go (fun i μ => i ≤ us.length ∧ I i μ) us.length hn ⟨by omega, h0⟩ (fun i μ h => h.1) ?_
  rintro i μ ⟨hi, h⟩
  rw [item_seq]
  by_cases h1 : i < us.length
  · right
    obtain ⟨s1, e1, e2⟩ := step i μ h1 h
    refine ⟨us[i], s1, by rw [List.getElem?_eq_getElem h1], e1, wpE.mono e2 fun b μ3 q => ?_⟩
    cases b with
    | false => exact ⟨by omega, q⟩
    | true => exact wpE.mono q fun v μ4 ⟨acc, a1, a2, a3⟩ => ⟨acc, a1, a2, by omega, a3⟩
  · left
    have : i = us.length := by omega
    subst this
    exact ⟨by rw [List.getElem?_eq_none (by omega)], fin μ h⟩
theorem lc_live {r : Nat} (us : List U) (I : Nat → Mem → Prop) (hn : us.length < 1000000) (h0 : I 0 μ) (hc : ∀ i μ, I i μ → μ[r]? = some (.lst us))
    (step : ∀ i μ (h : i < us.length), I i μ → ∃ s1, setT g us[i] (wipeU s own) = some s1 ∧
      wpE (t s1 μ) (fun b μ3 => if b = true then wpE (e s1 μ3) (fun v μ4 => ∃ acc, μ4[d]? = some (.lst acc) ∧ acc.length < lim ∧ I (i + 1) (μ4.set d (.lst (acc ++ [v])))) (fun _ _ => False) else I (i + 1) μ3) (fun _ _ => False))
    (fin : ∀ μ, I us.length μ → Q (.ref d) μ) : wpE (lcGo (.live r) own g t e s d fuelF 0 μ) Q E := by
  refine lc_go (fun i μ => i ≤ us.length ∧ I i μ) us.length hn ⟨by omega, h0⟩ (fun i μ h => h.1) ?_
  rintro i μ ⟨hi, h⟩
  rw [item_live (hc i μ h)]
  by_cases h1 : i < us.length
  · right
    obtain ⟨s1, e1, e2⟩ := step i μ h1 h
    refine ⟨us[i], s1, by rw [List.getElem?_eq_getElem h1], e1, wpE.mono e2 fun b μ3 q => ?_⟩
    cases b with
    | false => exact ⟨by omega, q⟩
    | true => exact wpE.mono q fun v μ4 ⟨acc, a1, a2, a3⟩ => ⟨acc, a1, a2, by omega, a3⟩
  · left
    have : i = us.length := by omega
    subst this
    exact ⟨by rw [List.getElem?_eq_none (by omega)], fin μ h⟩
end
/-! comprehensions as maps -/
theorem take_snoc {α : Type} {us : List α} {i : Nat} (h : i < us.length) : us.take (i + 1) = us.take i ++ [us[i]] := by
  rw [List.take_succ]; simp [h]
section
variable {own : List Nat} {g : Tgt} {t : FT} {e : FE} {s : Slots} {μ0 : Mem} {Q : U → Mem → Prop} {E : Str → Mem → Prop}
theorem lc_map {us : List U} (f : U → U) (hn : us.length < 1000000)
    (step : ∀ i μ' (h : i < us.length), Fr μ0 μ' → ∃ s1, setT g us[i] (wipeU s own) = some s1 ∧ wpE (e s1 μ') (fun w μ'' => w = f us[i] ∧ Fr μ' μ'') (fun _ _ => False))
    (fin : ∀ μ', Fr μ0 μ' → μ'[μ0.length]? = some (.lst (us.map f)) → Q (.ref μ0.length) μ') : wpE (lcGo (.seq us) own g tAll e s μ0.length fuelF 0 (μ0 ++ [.lst []])) Q E := by
  refine lc_seq (fun i μ' => Fr μ0 μ' ∧ μ'[μ0.length]? = some (.lst ((us.take i).map f))) hn ⟨Fr.refl.snoc, by simp⟩ ?_ ?_
  · rintro i μ1 hi ⟨f1, c1⟩
    obtain ⟨s1, a1, a2⟩ := step i μ1 hi f1
    refine ⟨s1, a1, ?_⟩
    show wpE (e s1 μ1) _ _
    refine wpE.mono a2 ?_
    rintro w μ2 ⟨rfl, f2⟩
    refine ⟨_, f2.at_ _ _ c1, by simp [lim]; omega, (f1.trans f2).put (Nat.le_refl _), ?_⟩
    rw [get_set (f2.at_ _ _ c1), take_snoc hi, List.map_append]
    rfl
  · rintro μ1 ⟨f1, c1⟩
    rw [List.take_length] at c1
    exact fin μ1 f1 c1
theorem lc_mapL {r : Nat} {us : List U} (hr : μ0[r]? = some (.lst us)) (f : U → U) (hn : us.length < 1000000)
    (step : ∀ i μ' (h : i < us.length), Fr μ0 μ' → ∃ s1, setT g us[i] (wipeU s own) = some s1 ∧ wpE (e s1 μ') (fun w μ'' => w = f us[i] ∧ Fr μ' μ'') (fun _ _ => False))
    (fin : ∀ μ', Fr μ0 μ' → μ'[μ0.length]? = some (.lst (us.map f)) → Q (.ref μ0.length) μ') : wpE (lcGo (.live r) own g tAll e s μ0.length fuelF 0 (μ0 ++ [.lst []])) Q E := by
  refine lc_live us (fun i μ' => Fr μ0 μ' ∧ μ'[μ0.length]? = some (.lst ((us.take i).map f))) hn ⟨Fr.refl.snoc, by simp⟩ (fun i μ' h => h.1.at_ _ _ hr) ?_ ?_
  · rintro i μ1 hi ⟨f1, c1⟩
    obtain ⟨s1, a1, a2⟩ := step i μ1 hi f1
    refine ⟨s1, a1, ?_⟩
    show wpE (e s1 μ1) _ _
    refine wpE.mono a2 ?_
    rintro w μ2 ⟨rfl, f2⟩
    refine ⟨_, f2.at_ _ _ c1, by simp [lim]; omega, (f1.trans f2).put (Nat.le_refl _), ?_⟩
    rw [get_set (f2.at_ _ _ c1), take_snoc hi, List.map_append]
    rfl
  · rintro μ1 ⟨f1, c1⟩
    rw [List.take_length] at c1
    exact fin μ1 f1 c1
theorem lc_mapR {m : Nat} (n : Nat) (f : Nat → U) (hm : m = n) (hn : n < 1000000)
    (step : ∀ i μ', i < n → Fr μ0 μ' → ∃ s1, setT g (.int (i : Int)) (wipeU s own) = some s1 ∧ wpE (e s1 μ') (fun w μ'' => w = f i ∧ Fr μ' μ'') (fun _ _ => False))
    (fin : ∀ μ', Fr μ0 μ' → μ'[μ0.length]? = some (.lst ((List.range n).map f)) → Q (.ref μ0.length) μ') : wpE (lcGo (.rng 0 1 m) own g tAll e s μ0.length fuelF 0 (μ0 ++ [.lst []])) Q E := by
  refine lc_rng n (fun i μ' => Fr μ0 μ' ∧ μ'[μ0.length]? = some (.lst ((List.range i).map f))) hm hn ⟨Fr.refl.snoc, by simp⟩ ?_ ?_
  · rintro i μ1 hi ⟨f1, c1⟩
    obtain ⟨s1, a1, a2⟩ := step i μ1 hi f1
    refine ⟨s1, a1, ?_⟩
    show wpE (e s1 μ1) _ _
    refine wpE.mono a2 ?_
    rintro w μ2 ⟨rfl, f2⟩
    refine ⟨_, f2.at_ _ _ c1, by simp [lim]; omega, (f1.trans f2).put (Nat.le_refl _), ?_⟩
    rw [get_set (f2.at_ _ _ c1), List.range_succ]
    simp
  · rintro μ1 ⟨f1, c1⟩
    exact fin μ1 f1 c1
theorem lc_sel {us : List U} (p : U → Bool) (f : U → U) (hn : us.length < 1000000)
    (step : ∀ i μ' (h : i < us.length), Fr μ0 μ' → ∃ s1, setT g us[i] (wipeU s own) = some s1 ∧ wpE (t s1 μ') (fun b μ2 => b = p us[i] ∧ Fr μ' μ2 ∧ (b = true → wpE (e s1 μ2) (fun w μ'' => w = f us[i] ∧ Fr μ2 μ'') (fun _ _ => False))) (fun _ _ => False))
    (fin : ∀ μ', Fr μ0 μ' → μ'[μ0.length]? = some (.lst ((us.filter p).map f)) → Q (.ref μ0.length) μ') : wpE (lcGo (.seq us) own g t e s μ0.length fuelF 0 (μ0 ++ [.lst []])) Q E := by
  refine lc_seq (fun i μ' => Fr μ0 μ' ∧ μ'[μ0.length]? = some (.lst (((us.take i).filter p).map f))) hn ⟨Fr.refl.snoc, by simp⟩ ?_ ?_
  · rintro i μ1 hi ⟨f1, c1⟩
    obtain ⟨s1, a1, a2⟩ := step i μ1 hi f1
    refine ⟨s1, a1, ?_⟩
    have hl : ((us.take i).filter p).length ≤ us.length := Nat.le_trans (List.length_filter_le _ _) (by simp; omega)
    refine wpE.mono a2 ?_
    rintro b μ2 ⟨rfl, f2, h2⟩
    cases hb : p us[i] with
    | false =>
      simp only [Bool.false_eq_true, if_false]
      refine ⟨f1.trans f2, ?_⟩
      rw [f2.at_ _ _ c1, take_snoc hi, List.filter_append, List.map_append]
      simp [hb]
    | true =>
      simp only [if_true]
      refine wpE.mono (h2 hb) ?_
      rintro w μ3 ⟨rfl, f3⟩
      have c3 := f3.at_ _ _ (f2.at_ _ _ c1)
      refine ⟨_, c3, by simp only [List.length_map, lim]; omega, ((f1.trans f2).trans f3).put (Nat.le_refl _), ?_⟩
      rw [get_set c3, take_snoc hi, List.filter_append, List.map_append]
      simp [hb]
  · rintro μ1 ⟨f1, c1⟩
    rw [List.take_length] at c1
    exact fin μ1 f1 c1
theorem lc_selL {r : Nat} {us : List U} (hr : μ0[r]? = some (.lst us)) (p : U → Bool) (f : U → U) (hn : us.length < 1000000)
    (step : ∀ i μ' (h : i < us.length), Fr μ0 μ' → ∃ s1, setT g us[i] (wipeU s own) = some s1 ∧ wpE (t s1 μ') (fun b μ2 => b = p us[i] ∧ Fr μ' μ2 ∧ (b = true → wpE (e s1 μ2) (fun w μ'' => w = f us[i] ∧ Fr μ2 μ'') (fun _ _ => False))) (fun _ _ => False))
    (fin : ∀ μ', Fr μ0 μ' → μ'[μ0.length]? = some (.lst ((us.filter p).map f)) → Q (.ref μ0.length) μ') : wpE (lcGo (.live r) own g t e s μ0.length fuelF 0 (μ0 ++ [.lst []])) Q E := by
  refine lc_live us (fun i μ' => Fr μ0 μ' ∧ μ'[μ0.length]? = some (.lst (((us.take i).filter p).map f))) hn ⟨Fr.refl.snoc, by simp⟩ (fun i μ' h => h.1.at_ _ _ hr) ?_ ?_
  · rintro i μ1 hi ⟨f1, c1⟩
    obtain ⟨s1, a1, a2⟩ := step i μ1 hi f1
    refine ⟨s1, a1, ?_⟩
    have hl : ((us.take i).filter p).length ≤ us.length := Nat.le_trans (List.length_filter_le _ _) (by simp; omega)
    refine wpE.mono a2 ?_
    rintro b μ2 ⟨rfl, f2, h2⟩
    cases hb : p us[i] with
    | false =>
      simp only [Bool.false_eq_true, if_false]
      refine ⟨f1.trans f2, ?_⟩
      rw [f2.at_ _ _ c1, take_snoc hi, List.filter_append, List.map_append]
      simp [hb]
    | true =>
      simp only [if_true]
      refine wpE.mono (h2 hb) ?_
      rintro w μ3 ⟨rfl, f3⟩
      have c3 := f3.at_ _ _ (f2.at_ _ _ c1)
      refine ⟨_, c3, by simp only [List.length_map, lim]; omega, ((f1.trans f2).trans f3).put (Nat.le_refl _), ?_⟩
      rw [get_set c3, take_snoc hi, List.filter_append, List.map_append]
      simp [hb]
  · rintro μ1 ⟨f1, c1⟩
    rw [List.take_length] at c1
    exact fin μ1 f1 c1
end
theorem blsU_map {α : Type} (f : α → Bool) : ∀ us : List α, blsU (us.map fun u => U.bl (f u)) = some (us.map f)
  | [] => rfl
  | u :: us => by simp [blsU, blsU_map f us]
theorem w_allL {μ : Mem} {Q : U → Mem → Prop} {E : Str → Mem → Prop} {r : Nat} {us : List U} {bs : List Bool} (h : μ[r]? = some (.lst us)) (e : blsU us = some bs) : wpE (bAll [.ref r] μ) Q E = Q (.bl (bs.all id)) μ := by
  have : bAll [.ref r] μ = .ok (.bl (bs.all id)) μ := by unfold bAll; simp only [lstU_L h, Option.bind_some, e]
  rw [this]; rfl
theorem w_anyL {μ : Mem} {Q : U → Mem → Prop} {E : Str → Mem → Prop} {r : Nat} {us : List U} {bs : List Bool} (h : μ[r]? = some (.lst us)) (e : blsU us = some bs) : wpE (bAny [.ref r] μ) Q E = Q (.bl (bs.any id)) μ := by
  have : bAny [.ref r] μ = .ok (.bl (bs.any id)) μ := by unfold bAny; simp only [lstU_L h, Option.bind_some, e]
  rw [this]; rfl
theorem intsU_map {α : Type} (f : α → Int) : ∀ us : List α, intsU (us.map fun u => U.int (f u)) = some (us.map f)
  | [] => rfl
  | u :: us => by simp [intsU, intsU_map f us]
theorem w_sumL {μ : Mem} {Q : U → Mem → Prop} {E : Str → Mem → Prop} {r : Nat} {us : List U} {bs : List Int} (h : μ[r]? = some (.lst us)) (e : intsU us = some bs) : wpE (bSum [.ref r] μ) Q E = Q (.int bs.sum) μ := by
  have : bSum [.ref r] μ = .ok (.int bs.sum) μ := by unfold bSum; simp only [lstU_L h, Option.bind_some, e]
  rw [this]; rfl
theorem w_listL {μ : Mem} {Q : U → Mem → Prop} {E : Str → Mem → Prop} {r : Nat} {us : List U} (h : μ[r]? = some (.lst us)) : wpE (bList [.ref r] μ) Q E = Q (.ref μ.length) (μ ++ [.lst us]) := by
  have : bList [.ref r] μ = .ok (.ref μ.length) (μ ++ [.lst us]) := by unfold bList seqU; simp only [h]
  rw [this]; rfl
theorem w_listT {μ : Mem} {Q : U → Mem → Prop} {E : Str → Mem → Prop} {us : List U} : wpE (bList [.tup us] μ) Q E = Q (.ref μ.length) (μ ++ [.lst us]) := propext ⟨fun h => h, fun h => h⟩
theorem w_addT {μ : Mem} {Q : U → Mem → Prop} {E : Str → Mem → Prop} {us ws : List U} (h : us.length + ws.length ≤ lim) : wpE (uAdd (.tup us) (.tup ws) μ) Q E = Q (.tup (us ++ ws)) μ := by
  cases us with
  | nil => rfl
  | cons u us =>
    have : uAdd (.tup (u :: us)) (.tup ws) μ = .ok (.tup (u :: us ++ ws)) μ := by unfold uAdd; simp only [h, if_true]
    rw [this]; rfl
theorem w_mulT {μ : Mem} {Q : U → Mem → Prop} {E : Str → Mem → Prop} {us : List U} {n : Int} (h : -1000 ≤ n ∧ n ≤ 1000 ∧ us.length ≤ 1000) : wpE (uMul (.tup us) (.int n) μ) Q E = Q (.tup (repU n.toNat us)) μ := by
  have : uMul (.tup us) (.int n) μ = .ok (.tup (repU n.toNat us)) μ := by unfold uMul; simp only [h, and_self, if_true]
  rw [this]; rfl
theorem w_addL' {μ : Mem} {a b : Nat} {xs ys : List U} {Q : U → Mem → Prop} {E : Str → Mem → Prop} (h1 : μ[a]? = some (.lst xs)) (h2 : μ[b]? = some (.lst ys)) (hl : xs.length + ys.length ≤ lim) : wpE (uAdd (.ref a) (.ref b) μ) Q E = Q (.ref μ.length) (μ ++ [.lst (xs ++ ys)]) := by
  have : uAdd (.ref a) (.ref b) μ = .ok (.ref μ.length) (μ ++ [.lst (xs ++ ys)]) := by unfold uAdd; simp only [h1, h2, hl, if_true]
  rw [this]; rfl
theorem tru_T {μ : Mem} {us : List U} : truU μ (.tup us) = some (!us.isEmpty) := rfl
theorem tru_I {μ : Mem} {i : Int} : truU μ (.int i) = some (i != 0) := rfl
/-! dicts -/
section
variable {s : Slots} {μ : Mem} {Q : U → Mem → Prop} {E : Str → Mem → Prop} {D : Dn}
theorem w_getE {d a b : FE} : wpE (fGet d a b s μ) Q E = wpE (d s μ) (fun x μ1 => (∃ kus0, rdU μ1 x = some kus0) ∧ wpE (a s μ1) (fun y μ2 => wpE (b s μ2) (fun z μ3 => ∃ kus k, rdU μ3 x = some kus ∧ keyU y = some k ∧ Q ((valU kus k).getD z) μ3) E) E) E := by
  unfold fGet; rw [w_bind]; congr 1; funext x μ1
  cases rdU μ1 x with
  | none => simp [wpE]
  | some k0 =>
    simp only [w_bind, Option.some.injEq, exists_eq', true_and]
    congr 1; funext y μ2; congr 1; funext z μ3
    cases h1 : rdU μ3 x with
    | none => simp [wpE]
    | some kus =>
      cases h2 : keyU y with
      | none => simp [wpE]
      | some k => simp [wpE]
theorem rd_D {r : Nat} {kus : List (Key × U)} (h : μ[r]? = some (.dct kus)) : rdU μ (.ref r) = some kus := by unfold rdU; simp only [h]
theorem rd_F {r : Nat} {kus : List (Key × U)} (h : μ[r]? = some (.fdc kus)) : rdU μ (.ref r) = some kus := by unfold rdU; simp only [h]
theorem stU_DI {r : Nat} {kvs : List (Key × U)} {x : Int} {u : U} (h : μ[r]? = some (.dct kvs)) (hl : kvs.length < lim) : stU (.ref r) (.int x) u μ = some (μ.set r (.dct (putU kvs (.inl x) u))) := by
  unfold stU; simp only [h, keyU, hl, if_true]
theorem w_ixDI {r : Nat} {kvs : List (Key × U)} {x : Int} (h : μ[r]? = some (.dct kvs)) : wpE (ixU (.ref r) (.int x) μ) Q E = ∃ a, valU kvs (.inl x) = some a ∧ Q a μ := by
  have : ixU (.ref r) (.int x) μ = opt (valU kvs (.inl x)) μ := by
    unfold ixU dctU
    simp only [h, keyU]
  rw [this, w_res]
def lkD (r : Nat) (D : Dn) : Dn := ⟨fun s μ => ∃ kus, μ[r]? = some (.fdc kus) ∧ D.nx s (μ.set r (.dct kus)), fun u μ => ∃ kus, μ[r]? = some (.fdc kus) ∧ D.rt u (μ.set r (.dct kus)),
  fun s μ => ∃ kus, μ[r]? = some (.fdc kus) ∧ D.bk s (μ.set r (.dct kus)), fun s μ => ∃ kus, μ[r]? = some (.fdc kus) ∧ D.ct s (μ.set r (.dct kus)), D.ex⟩
theorem ulM_F {r : Nat} {kus : List (Key × U)} (h : μ[r]? = some (.fdc kus)) : ulM r μ = some (μ.set r (.dct kus)) := by unfold ulM; simp only [h, ulC]
theorem s_lockD {e : FE} {b : FS} {r : Nat} {μ' : Mem} {kus : List (Key × U)} (he : e s μ = .ok (.ref r) μ') (h : μ[r]? = some (.dct kus)) (w : Dg.wpS (b s (μ.set r (.fdc kus))) (lkD r D)) : Dg.wpS (sLock e b s μ) D := by
  unfold sLock
  rw [he]
  simp only [h, lkC]
  cases eb : b s (μ.set r (.fdc kus)) with
  | nx s1 m1 => rw [eb] at w; obtain ⟨k, c, q⟩ := w; simp only [ulO, ulM_F c]; exact q
  | rt s1 m1 => rw [eb] at w; obtain ⟨k, c, q⟩ := w; simp only [ulO, ulM_F c]; exact q
  | bk s1 m1 => rw [eb] at w; obtain ⟨k, c, q⟩ := w; simp only [ulO, ulM_F c]; exact q
  | ct s1 m1 => rw [eb] at w; obtain ⟨k, c, q⟩ := w; simp only [ulO, ulM_F c]; exact q
  | ex c s1 m1 => rw [eb] at w; exact w
  | bad => rw [eb] at w; exact w
theorem w_lockD {e : FE} {b : FE} {r : Nat} {μ' : Mem} {kus : List (Key × U)} (he : e s μ = .ok (.ref r) μ') (h : μ[r]? = some (.dct kus)) (w : wpE (b s (μ.set r (.fdc kus))) (fun u μ => ∃ kus, μ[r]? = some (.fdc kus) ∧ Q u (μ.set r (.dct kus))) E) : wpE (fLock e b s μ) Q E := by
  unfold fLock
  rw [he]
  simp only [h, lkC]
  cases eb : b s (μ.set r (.fdc kus)) with
  | ok s1 m1 => rw [eb] at w; obtain ⟨k, c, q⟩ := w; simp only [ulR, ulM_F c]; exact q
  | ex c m1 => rw [eb] at w; exact w
  | bad => rw [eb] at w; exact w
theorem w_items {a : FE} {Q : IterU → Mem → Prop} : wpE (Dg.iItems a s μ) Q E = wpE (a s μ) (fun u μ1 => ∃ kus, fdcU μ1 u = some kus ∧ ksOk kus = true ∧ Q (.seq (itemsU kus)) μ1) E := by
  unfold Dg.iItems; rw [w_bind]; congr 1; funext u μ1
  cases fdcU μ1 u with
  | none => simp [wpE]
  | some kus =>
    simp only [Option.some.injEq, exists_eq_left']
    split
    · rename_i h; simp [h, wpE]
    · rename_i h; simp [h, wpE]
theorem w_keys {a : FE} {Q : IterU → Mem → Prop} : wpE (Dg.iKeys a s μ) Q E = wpE (a s μ) (fun u μ1 => ∃ kus, fdcU μ1 u = some kus ∧ ksOk kus = true ∧ Q (.seq (keysU kus)) μ1) E := by
  unfold Dg.iKeys; rw [w_bind]; congr 1; funext u μ1
  cases fdcU μ1 u with
  | none => simp [wpE]
  | some kus =>
    simp only [Option.some.injEq, exists_eq_left']
    split
    · rename_i h; simp [h, wpE]
    · rename_i h; simp [h, wpE]
theorem fdc_F {r : Nat} {kus : List (Key × U)} (h : μ[r]? = some (.fdc kus)) : fdcU μ (.ref r) = some kus := by unfold fdcU; simp only [h]
end
theorem Fr.unlock {μ μ' : Mem} {r : Nat} {kus : List (Key × U)} (h : μ[r]? = some (.dct kus)) (f : Fr (μ.set r (.fdc kus)) μ') : Fr μ (μ'.set r (.dct kus)) := by
  have hl := get_lt h
  have hr : μ'[r]? = some (.fdc kus) := f.at_ _ _ (get_set h)
  refine ⟨by have := f.le; simp at this ⊢; omega, fun i c hi => ?_⟩
  by_cases e : i = r
  · subst e
    rw [h] at hi
    cases hi
    exact get_set hr
  · exact get_set_ne (f.at_ _ _ (get_set_ne hi (Ne.symm e))) (Ne.symm e)
theorem atI_toNat {α : Type} {xs : List α} {i : Int} (h0 : 0 ≤ i) (h : i.toNat < xs.length) : atI xs i = some xs[i.toNat] := by
  obtain ⟨n, rfl⟩ := Int.eq_ofNat_of_zero_le h0
  rw [Dg.atI_nat]
  simp only [Int.toNat_natCast] at h ⊢
  exact List.getElem?_eq_getElem h
theorem w_index {μ : Mem} {Q : U → Mem → Prop} {E : Str → Mem → Prop} {u w : U} {us : List U} {vs : List V} {y : V} {j : Nat} (h : lstU μ u = some us) (e1 : flUs us = some vs) (e2 : flU w = some y) (e3 : idxV y vs = some j) : wpE (gIndex u [w] μ) Q E = Q (.int (j : Nat)) μ := by
  have : gIndex u [w] μ = .ok (.int (j : Nat)) μ := by unfold gIndex; simp only [h, e1, e2, e3]
  rw [this]; rfl
theorem cutU_take {α : Type} {us : List α} {n : Int} (h : 0 ≤ n) : cutU us none (some n) = us.take n.toNat := by
  unfold cutU
  obtain ⟨m, rfl⟩ := Int.eq_ofNat_of_zero_le h
  show (us.drop 0).take (HT.sIx us.length us.length (some (m : Int)) - 0) = _
  rw [HT.sIx_nat]
  simp only [List.drop_zero, Nat.sub_zero, Int.toNat_natCast]
  rcases Nat.le_total m us.length with h | h
  · rw [Nat.min_eq_left h]
  · rw [Nat.min_eq_right h, List.take_of_length_le (Nat.le_refl _), List.take_of_length_le h]
theorem cutU_drop {α : Type} {us : List α} {n : Int} (h : 0 ≤ n) : cutU us (some n) none = us.drop n.toNat := by
  unfold cutU
  obtain ⟨m, rfl⟩ := Int.eq_ofNat_of_zero_le h
  rw [HT.sIx_nat]
  show (us.drop (min m us.length)).take (us.length - min m us.length) = _
  simp only [Int.toNat_natCast]
  rcases Nat.le_total m us.length with h | h
  · rw [Nat.min_eq_left h, List.take_of_length_le (by simp)]
  · rw [Nat.min_eq_right h, List.drop_of_length_le (Nat.le_refl _), List.drop_of_length_le h]; simp
theorem w_geXI {i j : Int} {μ : Mem} {Q : U → Mem → Prop} {E : Str → Mem → Prop} : wpE (uGeX (.int i) (.int j) μ) Q E = Q (.bl (decide (j ≤ i))) μ := propext ⟨fun h => h, fun h => h⟩
theorem w_geXP {a b c d : Int} {μ : Mem} {Q : U → Mem → Prop} {E : Str → Mem → Prop} : wpE (uGeX (.tup [.int a, .int b]) (.tup [.int c, .int d]) μ) Q E = Q (.bl (!ltPr (a, b) (c, d))) μ := propext ⟨fun h => h, fun h => h⟩
theorem w_lz {ma : FA} {s : Slots} {μ : Mem} {Q : U → Mem → Prop} {E : Str → Mem → Prop} : wpE (fLz ma s μ) Q E = wpE (ma s μ) (fun us μ1 => ∃ xs ys, us = [.tup xs, .tup ys] ∧ Q (.ref μ1.length) (μ1 ++ [.lst (List.zipWith (fun x y => .tup [x, y]) xs ys)])) E := by
  unfold fLz; rw [w_bind]; congr 1; funext us μ1
  apply propext
  constructor
  · intro h
    split at h
    · rename_i xs ys; exact ⟨xs, ys, rfl, h⟩
    · exact h.elim
  · rintro ⟨xs, ys, rfl, q⟩; exact q
local macro_rules | `(tactic| walk_at "go") => `(tactic| simp (config := {decide := true}) only [w_run, w_geXI, w_geXP, w_lz, w_op, w_isi, Dg.wipeU, w_powI, w_intB, w_sl, w_oNone, w_oSome, w_slT, w_slF, w_ixF, w_lenF, w_abs, w_max2, w_min2, w_fdivI, w_neg, w_andE, w_orE, w_notE, w_chain, w_c, w_var, w_call, w_def, w_anil, w_acons, w_tup, w_lst, w_int, w_intB, w_lenT, w_addI, w_subI, w_modI, w_mulI, w_ltI, w_leI, w_gtI, w_geI, w_eq, w_ne, w_ixT, w_if, w_nt, w_an, w_or, w_all, w_tstB, w_tst, w_app, w_lc, w_for, w_iseqT, w_rg1, w_rev1, w_d0, Dg.eq_str, Dg.eq_int, s_seq, s_next, s_brk, s_cnt, s_expr, s_ret, s_retN, s_if, w_getE, w_items, w_keys, w_fmt, w_js0, w_js, s_asg1, s_store, s_tryAs, s_try, w_isX, s_raise, List.map_cons, List.map_nil, List.cons_append, List.nil_append, List.length_cons, List.length_nil, List.replicate_succ, List.replicate_zero, Nat.add_sub_cancel, Nat.sub_self, Nat.sub_zero, Nat.reduceAdd, Nat.reduceSub, Nat.zero_add, List.set_cons_succ, List.set_cons_zero, List.getElem?_cons_zero, List.getElem?_cons_succ, Option.some.injEq, exists_eq_left', exists_eq_left, exists_eq_right', U.bl.injEq, U.int.injEq, U.ref.injEq, U.str.injEq, atI_0, atI_1, atI_2, atI_3, atI_4, atI_5, if_true, if_false, true_and, and_true, decide_true, decide_false, Bool.not_true, Bool.not_false, reduceCtorEq, ite_true, ite_false, decide_eq_true_eq, Bool.true_eq_false, Bool.false_eq_true])
/-! instances, enumerate, list(range(n)) -/
section
variable {s : Slots} {μ : Mem} {D : Dn} {E : Str → Mem → Prop}
theorem isO_is {r : Nat} {c : Str} {fs : List (Str × U)} (h : μ[r]? = some (.obj c fs)) : isO c μ (.ref r) = some fs := by
  unfold isO
  simp only [h, if_true]
theorem w_fld {c f : Str} {a : FE} {Q : U → Mem → Prop} : wpE (fFld c f a s μ) Q E = wpE (a s μ) (fun u μ1 => ∃ fs, isO c μ1 u = some fs ∧ ∃ v, fs.lookup f = some v ∧ Q v μ1) E := by
  unfold fFld; rw [w_bind]; congr 1; funext u μ1
  unfold gFld
  cases isO c μ1 u with
  | none => simp [wpE]
  | some fs =>
    simp only [Option.some.injEq, exists_eq_left']
    cases h : fs.lookup f with
    | none => simp [wpE]
    | some v => simp [wpE]
theorem s_fld {c f : Str} {o a : FE} : Dg.wpS (sFldS c f o a s μ) D = wpE (a s μ) (fun v μ1 => wpE (o s μ1) (fun u μ2 => ∃ μ3, stO c f v u μ2 = some μ3 ∧ D.nx s μ3) (fun c μ => D.ex c s μ)) (fun c μ => D.ex c s μ) := by
  unfold sFldS; rw [w_ofR]; congr 1; funext v μ1; rw [w_ofR]; congr 1; funext u μ2
  cases stO c f v u μ2 <;> simp [Dg.wpS]
theorem stO_is {r : Nat} {c f : Str} {fs : List (Str × U)} {v : U} (h : μ[r]? = some (.obj c fs)) (hl : fs.length < 1000) : stO c f v (.ref r) μ = some (μ.set r (.obj c (putFU f v fs))) := by
  unfold stO
  simp only [isO_is h, if_pos hl]
theorem w_noEx {r : Res U} {Q : U → Mem → Prop} : wpE (noEx r) Q E = wpE r Q (fun _ _ => False) := by
  cases r <;> simp [noEx, wpE]
theorem w_meth {c m : Str} {n : Nat} {g : List U → Mem → Res U} {o : FE} {a : FA} {Q : U → Mem → Prop} : wpE (fMeth c m n g o a s μ) Q E = wpE (o s μ) (fun u μ1 => ∃ fs, isO c μ1 u = some fs ∧ fs.lookup m = none ∧ wpE (a s μ1) (fun us μ2 => us.length + 1 = n ∧ wpE (g (u :: us) μ2) Q (fun _ _ => False)) E) E := by
  unfold fMeth; rw [w_bind]; congr 1; funext u μ1
  cases isO c μ1 u with
  | none => simp [wpE]
  | some fs =>
    simp only [Option.some.injEq, exists_eq_left']
    cases h : fs.lookup m with
    | some v => simp [wpE]
    | none =>
      simp only [Option.isNone_none, if_true, true_and]
      rw [w_bind]; congr 1; funext us μ2
      split
      · rename_i h; rw [w_noEx]; simp [h]
      · rename_i h; simp [h, wpE]
theorem w_make {c : Str} {n : Nat} {g : List U → Mem → Res U} {a : FA} {Q : U → Mem → Prop} : wpE (fMake c n g a s μ) Q E = wpE (a s μ) (fun us μ1 => us.length + 1 = n ∧ wpE (g (.ref μ1.length :: us) (μ1 ++ [.obj c []])) (fun w μ2 => w = .non ∧ Q (.ref μ1.length) μ2) (fun _ _ => False)) E := by
  unfold fMake; rw [w_bind]; congr 1; funext us μ1
  split
  · rename_i h
    simp only [h, true_and]
    cases g (.ref μ1.length :: us) (μ1 ++ [.obj c []]) with
    | ok w μ2 => cases w <;> simp [wpE]
    | ex c m => simp [wpE]
    | bad => simp [wpE]
  · rename_i h; simp [h, wpE]
theorem w_lrg {a : FE} {Q : U → Mem → Prop} : wpE (fLrg a s μ) Q E = wpE (a s μ) (fun u μ1 => ∃ n : Int, u = .int n ∧ (0 ≤ n ∧ n ≤ 16777216) ∧ Q (.ref μ1.length) (μ1 ++ [.lst ((List.range n.toNat).map fun i => U.int (i : Nat))])) E := by
  unfold fLrg; rw [w_bind]; congr 1; funext u μ1
  cases u with
  | int n =>
    simp only [U.int.injEq, exists_eq_left']
    split
    · rename_i h; simp only [of_decide_eq_true h, true_and]; rfl
    · rename_i h
      have h' : ¬ (0 ≤ n ∧ n ≤ 16777216) := fun e => h (decide_eq_true e)
      simp only [h', false_and]; rfl
  | _ => simp [wpE]
theorem w_enum {a : FE} {Q : IterU → Mem → Prop} : wpE (iEnumU a s μ) Q E = wpE (a s μ) (fun u μ1 => ∃ r, u = .ref r ∧ ∃ us, listAt μ1 r = some us ∧ Q (.enum r) μ1) E := by
  unfold iEnumU; rw [w_bind]; congr 1; funext u μ1
  cases u with
  | ref r =>
    simp only [U.ref.injEq, exists_eq_left']
    cases listAt μ1 r <;> simp [wpE]
  | _ => simp [wpE]
theorem item_enum {r i : Nat} {us : List U} (h : μ[r]? = some (.lst us)) : Dg.itemAt (.enum r) i μ = some (us[i]?.map fun u => .tup [.int (i : Nat), u]) := by
  simp only [Dg.itemAt, listAt_L h, Option.map_some]
theorem for_enum {r : Nat} {g : Tgt} {b : FS} (us : List U) (I : Nat → Slots → Mem → Prop) (hn : us.length < 1000000) (h0 : I 0 s μ) (hc : ∀ i s μ, I i s μ → μ[r]? = some (.lst us))
    (step : ∀ i s μ (h : i < us.length), I i s μ → ∃ s1, setT g (.tup [.int (i : Nat), us[i]]) s = some s1 ∧ Dg.wpS (b s1 μ) ⟨I (i + 1), D.rt, D.nx, I (i + 1), D.ex⟩) (fin : ∀ s μ, I us.length s μ → D.nx s μ) : Dg.wpS (sForGo g b fuelF (.enum r) 0 s μ) D := by
  refine for_go (fun i s μ => i ≤ us.length ∧ I i s μ) us.length hn ⟨by omega, h0⟩ (fun i s μ h => h.1) ?_
  rintro i s μ ⟨hi, h⟩
  rw [item_enum (hc i s μ h)]
  by_cases e : i < us.length
  · right
    obtain ⟨s1, e1, h1⟩ := step i s μ e h
    refine ⟨_, s1, by rw [List.getElem?_eq_getElem e]; rfl, e1, ?_⟩
    have : Dg.wpS (b s1 μ) ⟨fun s μ => i + 1 ≤ us.length ∧ I (i + 1) s μ, D.rt, D.nx, fun s μ => i + 1 ≤ us.length ∧ I (i + 1) s μ, D.ex⟩ := by
      cases hb : b s1 μ <;> rw [hb] at h1 <;> first | exact ⟨e, h1⟩ | exact h1
    exact this
  · left
    have : i = us.length := by omega
    subst this
    exact ⟨by rw [List.getElem?_eq_none (Nat.le_refl _)]; rfl, fin s μ h⟩
end
open TL (tl ext_tl tl_append joinL)
/-! texts -/
theorem sok {x : Str} (h : ∀ c ∈ tl x, c < 1114112) : PyData.strOk x = true := by
  unfold PyData.strOk
  rw [Array.all_eq_true']
  intro c hc
  exact decide_eq_true (h c (Array.mem_toList_iff.mpr hc))
theorem sok_iff {x : Str} : PyData.strOk x = true ↔ ∀ c ∈ tl x, c < 1114112 := by
  refine ⟨fun h c hc => ?_, sok⟩
  unfold PyData.strOk at h
  rw [Array.all_eq_true'] at h
  exact of_decide_eq_true (h c (Array.mem_toList_iff.mp hc))
def mkS (l : List Nat) : Str := ⟨l.toArray⟩
theorem tl_mkS (l : List Nat) : tl (mkS l) = l := rfl
theorem mkS_inj {a b : List Nat} (h : mkS a = mkS b) : a = b := by
  have := congrArg tl h
  simpa [tl_mkS] using this
theorem mkS_tl (x : Str) : mkS (tl x) = x := ext_tl rfl
theorem len_mkS (l : List Nat) : (mkS l).length = l.length := by rw [TL.len_tl]; rfl
theorem tl_dig {n : Nat} (h : n < 10) : tl (toString (n : Int) : Str) = [48 + n] := by
  have := TL.tl_num n
  rw [TL.numL_lt h] at this
  exact this
section
variable {s : Slots} {μ : Mem} {Q : U → Mem → Prop} {E : Str → Mem → Prop}
theorem w_mtS {g : U → List U → Mem → Res U} {o : FE} {a : FA} : wpE (fMtS g o a s μ) Q E = wpE (o s μ) (fun u μ1 => ∃ z, u = .str z ∧ wpE (a s μ1) (fun us μ2 => wpE (g (.str z) us μ2) Q E) E) E := by
  unfold fMtS; rw [w_bind]; congr 1; funext u μ1
  cases u with
  | str z => simp only [U.str.injEq, exists_eq_left']; rw [w_bind]
  | _ => simp [wpE]
theorem w_addS {a b : Str} (h : a.length + b.length ≤ lim) : wpE (uAdd (.str a) (.str b) μ) Q E = Q (.str (a ++ b)) μ := by
  have : uAdd (.str a) (.str b) μ = .ok (.str (a ++ b)) μ := by unfold uAdd; simp only [h, if_true]
  rw [this]; rfl
theorem w_strN {n : Nat} (h : n < 10) : wpE (bStr [.int (n : Int)] μ) Q E = Q (.str (mkS [48 + n])) μ := by
  have e : (toString (n : Int) : Str) = mkS [48 + n] := ext_tl (by rw [tl_dig h, tl_mkS])
  have : bStr [.int (n : Int)] μ = .ok (.str (mkS [48 + n])) μ := by
    unfold bStr
    have h1 : (n : Int).natAbs.log2 < 1920 := by
      have := Nat.log2_le_self (n : Int).natAbs
      omega
    have h2 : PyData.strOk (toString (n : Int) : Str) = true := by
      rw [e]; exact sok fun c hc => by rw [tl_mkS] at hc; rw [List.mem_singleton.mp hc]; omega
    simp only [h1, h2, and_self, if_true]
    rw [e]
  rw [this]; rfl
theorem w_astar {a : FE} {b : FA} {Q : List U → Mem → Prop} : wpE (aStar a b s μ) Q E = wpE (a s μ) (fun u μ1 => ∃ us, seqU μ1 u = some us ∧ wpE (b s μ1) (fun ws μ2 => Q (us ++ ws) μ2) E) E := by
  unfold aStar; rw [w_bind]; congr 1; funext u μ1
  cases seqU μ1 u with
  | none => simp [wpE]
  | some us => simp only [Option.some.injEq, exists_eq_left']; rw [w_bind]; rfl
theorem seq_L {r : Nat} {us : List U} (h : μ[r]? = some (.lst us)) : seqU μ (.ref r) = some us := by unfold seqU; simp only [h]
theorem w_fmtR {a : FE} : wpE (fFmtR a s μ) Q E = wpE (a s μ) (fun u μ1 => ∃ y, u = .str y ∧ ((reprText y).length ≤ lim ∧ PyData.strOk (reprText y) = true) ∧ Q (.str (reprText y)) μ1) E := by
  unfold fFmtR; rw [w_bind]; congr 1; funext u μ1
  cases u with
  | str y =>
    simp only [U.str.injEq, exists_eq_left']
    split
    · rename_i h; simp only [h, true_and, and_self]; rfl
    · rename_i h; simp only [h, false_and]; rfl
  | _ => simp [wpE]
theorem w_enumT {a : FE} {us : List U} {Q : IterU → Mem → Prop} (h : a s μ = .ok (.tup us) μ) : wpE (iEnumA a s μ) Q E = Q (.seq (enumL us)) μ := by
  unfold iEnumA; rw [h]; rfl
theorem w_extL {r r2 : Nat} {us ws : List U} (h : μ[r]? = some (.lst us)) (h2 : μ[r2]? = some (.lst ws)) (hl : us.length + ws.length ≤ lim) : wpE (gExt (.ref r) [.ref r2] μ) Q E = Q .non (μ.set r (.lst (us ++ ws))) := by
  have : gExt (.ref r) [.ref r2] μ = .ok .non (μ.set r (.lst (us ++ ws))) := by unfold gExt; simp [lstU_L h, seqU, h2, hl, h]
  rw [this]; rfl
theorem w_splitS {z b : Str} {parts : List Str} (e : Txt.split z b = parts) (hb : b.length ≠ 0) (hz : z.length + 2 ≤ lim) (ok : ∀ p ∈ parts, PyData.strOk p = true) : wpE (gSplit (.str z) [.str b] μ) Q E = Q (.ref μ.length) (μ ++ [.lst (parts.map U.str)]) := by
  have : gSplit (.str z) [.str b] μ = .ok (.ref μ.length) (μ ++ [.lst (parts.map U.str)]) := by
    unfold gSplit
    simp only [e]
    rw [if_pos ⟨hb, hz, List.all_eq_true.mpr ok⟩]
  rw [this]; rfl
theorem strsU_map : ∀ xs : List Str, strsU (xs.map U.str) = some xs
  | [] => rfl
  | x :: xs => by simp [strsU, strsU_map xs]
theorem w_joinL {b : Str} {r : Nat} {ys : List Str} (h : μ[r]? = some (.lst (ys.map U.str))) (hl : (ys.map (·.length)).sum + ys.length * b.length ≤ 16777216) (ok : PyData.strOk (Txt.join b ys) = true) : wpE (gJoin (.str b) [.ref r] μ) Q E = Q (.str (Txt.join b ys)) μ := by
  have : gJoin (.str b) [.ref r] μ = .ok (.str (Txt.join b ys)) μ := by
    unfold gJoin
    simp only [seq_L h, Option.bind_some, strsU_map]
    rw [if_pos ⟨hl, ok⟩]
  rw [this]; rfl
end
theorem lim_of' {n : Nat} (h : n ≤ 1000) : n ≤ lim := Nat.le_trans h (by decide)
theorem fmod_nat {x m : Int} (hm : 0 < m) : ∃ n : Nat, x.fmod m = (n : Int) ∧ (n : Int) < m := by
  obtain ⟨a, b⟩ := Dg.fmod_in (x := x) hm
  obtain ⟨n, e⟩ := Int.eq_ofNat_of_zero_le a
  exact ⟨n, e, by omega⟩
/-- the item of a list at a place that is in it -/
theorem rdU {us : List U} {μ : Mem} {r : Nat} {i : Int} (h0 : 0 ≤ i) (hi : i < (us.length : Nat)) (h : μ[r]? = some (.lst us)) {Q : U → Mem → Prop} {E : Str → Mem → Prop} (q : ∀ u ∈ us, Q u μ) : wpE (ixU (.ref r) (.int i) μ) Q E := by
  obtain ⟨n, rfl⟩ := Int.eq_ofNat_of_zero_le h0
  have hi' : n < us.length := by omega
  rw [w_ixL h, Dg.atI_nat]
  exact ⟨us[n], List.getElem?_eq_getElem hi', q _ (List.getElem_mem _)⟩
theorem w_rg2 {a b : FE} {s : Slots} {μ : Mem} {Q : IterU → Mem → Prop} {E : Str → Mem → Prop} : wpE (iRg2 a b s μ) Q E = wpE (a s μ) (fun u μ1 => wpE (b s μ1) (fun w μ2 => ∃ i j, u = .int i ∧ w = .int j ∧ (okR i && okR j) = true ∧ Q (.rng i 1 (j - i).toNat) μ2) E) E := by
  unfold iRg2; rw [w_bind]; congr 1; funext u μ1; rw [w_bind]; congr 1; funext w μ2
  apply propext
  constructor
  · intro h
    split at h
    · rename_i i j
      split at h
      · rename_i hc; exact ⟨i, j, rfl, rfl, hc, h⟩
      · exact h.elim
    · exact h.elim
  · rintro ⟨i, j, rfl, rfl, hc, q⟩
    simp only [hc, if_true]
    exact q
theorem eq_bl {a b : Bool} {μ : Mem} : eqU (.bl a) (.bl b) μ = some (decide (a = b)) := by
  cases a <;> cases b <;> rfl
theorem toDs_strs {g : Nat → Option PyData} : ∀ xs : List Str, toDs g (xs.map U.str) = some (xs.map PyData.str)
  | [] => rfl
  | x :: xs => by simp [toDs, toD, toDs_strs xs]
theorem in_strs {t : Str} {xs : List Str} {μ : Mem} : inU (.str t) (.tup (xs.map U.str)) μ = some (xs.any fun x => decide (x = t)) := by
  unfold inU
  simp only [dctU, seqU]
  have e : datU μ (.str t) = some (.str t) := rfl
  rw [e, toDs_strs]
  simp only
  rw [if_pos (by simp [PyData.depth])]
  congr 1
  rw [List.any_map]
  congr 1
theorem join_mem {S : List Nat} {c : Nat} : ∀ {ps : List (List Nat)}, c ∈ joinL S ps → c ∈ S ∨ ∃ p ∈ ps, c ∈ p
  | [], h => by cases h
  | [p], h => .inr ⟨p, by simp, h⟩
  | p :: q :: r, h => by
    rcases List.mem_append.mp h with h | h
    · exact .inr ⟨p, by simp, h⟩
    · rcases List.mem_append.mp h with h | h
      · exact .inl h
      · rcases join_mem h with h | ⟨x, hx, h⟩
        · exact .inl h
        · exact .inr ⟨x, by simp only [List.mem_cons] at hx ⊢; exact .inr hx, h⟩
theorem join_len {S : List Nat} {k : Nat} : ∀ {ps : List (List Nat)}, (∀ p ∈ ps, p.length ≤ k) → (joinL S ps).length ≤ ps.length * (k + S.length)
  | [], _ => by simp [joinL]
  | [p], h => by
    have := h p (by simp)
    show p.length ≤ _
    simp only [List.length_cons, List.length_nil]
    omega
  | p :: q :: r, h => by
    have h1 := h p (by simp)
    have h2 := join_len (S := S) (ps := q :: r) fun x hx => h x (by simp only [List.mem_cons] at hx ⊢; exact .inr hx)
    show (p ++ (S ++ joinL S (q :: r))).length ≤ _
    rw [List.length_append, List.length_append, List.length_cons, Nat.succ_mul]
    omega
theorem join_ne {S : List Nat} (hS : S ≠ []) : ∀ {ps : List (List Nat)}, ps ≠ [] → (∀ p, ps = [p] → p ≠ []) → joinL S ps ≠ []
  | [], h, _ => absurd rfl h
  | [p], _, h => h p rfl
  | p :: q :: r, _, _ => by
    show p ++ (S ++ _) ≠ []
    intro e
    have := (List.append_eq_nil_iff.mp (List.append_eq_nil_iff.mp e).2).1
    exact hS this
theorem joinL_cons {S p : List Nat} {r : List (List Nat)} (h : r ≠ []) : joinL S (p :: r) = p ++ (S ++ joinL S r) := by
  cases r with
  | nil => exact absurd rfl h
  | cons q r => rfl
theorem join_cut {S x y : List Nat} {B : List (List Nat)} : ∀ A : List (List Nat), joinL S (A ++ (x ++ S ++ y) :: B) = joinL S (A ++ x :: y :: B)
  | [] => by
    rw [List.nil_append, List.nil_append]
    cases B with
    | nil =>
      show x ++ S ++ y = x ++ (S ++ y)
      rw [List.append_assoc]
    | cons b B =>
      rw [joinL_cons (by simp), joinL_cons (r := y :: b :: B) (by simp), joinL_cons (r := b :: B) (by simp)]
      simp only [List.append_assoc]
  | a :: A => by
    rw [List.cons_append, List.cons_append, joinL_cons (by simp), joinL_cons (by simp), join_cut A]
theorem t_sp : tl (" " : Str) = [32] := by decide +kernel
theorem tl_joinS (ps : List Str) : tl (Txt.join " " ps) = joinL [32] (ps.map tl) := by
  rw [TL.join_eq, TL.tl_join, t_sp]
open TL (tl ext_tl tl_append joinL)
/-! a text cut at most k times at the blank -/
section
open PySem.Builtin.Str PySem.StrLaws
theorem occ_sim (s sub : Str) (hi L M : Nat) : ∀ (l : List Nat) (st1 st2 : Array Nat × Nat), st1.1.toList = st2.1.toList.take L → (st2.1.size < L → st1.2 = st2.2) → st2.1.size + l.length ≤ M →
    (forIn (m := Id) l st1 (occBody s sub hi L)).run.1.toList = (forIn (m := Id) l st2 (occBody s sub hi M)).run.1.toList.take L
  | [], st1, st2, h, _, _ => h
  | a :: l, st1, st2, h, hf, hM => by
    rw [List.forIn_cons, List.forIn_cons]
    rw [List.length_cons] at hM
    have hsz : st1.1.size = min L st2.1.size := by
      have := congrArg List.length h
      rw [List.length_take] at this
      simpa using this
    by_cases c2 : ((st2.1.size < M ∧ st2.2 ≤ a) ∧ a + sub.length ≤ hi) ∧ subAt s sub a = true
    · have e2 : occBody s sub hi M a st2 = pure (ForInStep.yield (st2.1.push a, a + sub.length)) := by unfold occBody; rw [if_pos c2]
      rw [e2]
      by_cases hL : st2.1.size < L
      · have c1 : ((st1.1.size < L ∧ st1.2 ≤ a) ∧ a + sub.length ≤ hi) ∧ subAt s sub a = true := ⟨⟨⟨by omega, by rw [hf hL]; exact c2.1.1.2⟩, c2.1.2⟩, c2.2⟩
        have e1 : occBody s sub hi L a st1 = pure (ForInStep.yield (st1.1.push a, a + sub.length)) := by unfold occBody; rw [if_pos c1]
        rw [e1]
        refine occ_sim s sub hi L M l _ _ ?_ (fun _ => rfl) (by simp; omega)
        simp only [Array.toList_push]
        rw [h, List.take_append, List.take_of_length_le (by simp; omega), List.take_of_length_le (by simp; omega)]
      · have c1 : ¬ (((st1.1.size < L ∧ st1.2 ≤ a) ∧ a + sub.length ≤ hi) ∧ subAt s sub a = true) := fun c => by have := c.1.1.1; omega
        have e1 : occBody s sub hi L a st1 = pure (ForInStep.yield (st1.1, st1.2)) := by unfold occBody; rw [if_neg c1]
        rw [e1]
        refine occ_sim s sub hi L M l _ _ ?_ (fun q => by simp at q; omega) (by simp; omega)
        simp only [Array.toList_push]
        rw [List.take_append_of_le_length (by simp; omega)]
        exact h
    · have e2 : occBody s sub hi M a st2 = pure (ForInStep.yield (st2.1, st2.2)) := by unfold occBody; rw [if_neg c2]
      rw [e2]
      have c1 : ¬ (((st1.1.size < L ∧ st1.2 ≤ a) ∧ a + sub.length ≤ hi) ∧ subAt s sub a = true) := fun c => by
        have h1 := c.1.1.1
        have hL : st2.1.size < L := by omega
        exact c2 ⟨⟨⟨by omega, by rw [← hf hL]; exact c.1.1.2⟩, c.1.2⟩, c.2⟩
      have e1 : occBody s sub hi L a st1 = pure (ForInStep.yield (st1.1, st1.2)) := by unfold occBody; rw [if_neg c1]
      rw [e1]
      exact occ_sim s sub hi L M l (st1.1, st1.2) (st2.1, st2.2) h hf (by show st2.1.size + l.length ≤ M; omega)
theorem occ_take (x y : Str) (L : Nat) : occurrences x y 0 x.length L = (occurrences x y 0 x.length (x.length + 1)).take L := by
  rw [occ_eq, occ_eq]
  exact occ_sim x y x.length L (x.length + 1) _ _ _ (by simp) (fun _ => rfl) (by simp)
/-- l cut k times at c -/
def spM (c : Nat) : Nat → List Nat → List Nat → List (List Nat)
  | 0, acc, l => [acc ++ l]
  | _ + 1, acc, [] => [acc]
  | k + 1, acc, x :: r => if x = c then acc :: spM c k [] r else spM c (k + 1) (acc ++ [x]) r
theorem spM_0 (c : Nat) (acc l : List Nat) : spM c 0 acc l = [acc ++ l] := by cases l <;> rfl
theorem spM_run {c k : Nat} : ∀ {p acc r : List Nat}, c ∉ p → spM c (k + 1) acc (p ++ r) = spM c (k + 1) (acc ++ p) r
  | [], acc, r, _ => by simp
  | x :: p, acc, r, h => by
    have h1 : ¬ x = c := fun e => h (by simp [e])
    rw [List.cons_append]
    show (if x = c then _ else spM c (k + 1) (acc ++ [x]) (p ++ r)) = _
    rw [if_neg h1, spM_run (fun q => h (by simp [q]))]
    simp
theorem parts_spM {x : Str} {c : Nat} : ∀ (k : Nat) (cuts : List Nat) (a f : Nat), a ≤ (tl x).length → ChainG x ⟨#[c]⟩ x.length a cuts f → (∀ k, f ≤ k → ¬ At x ⟨#[c]⟩ x.length k) →
    (partsFrom x (⟨#[c]⟩ : Str).length a (cuts.take k)).map tl = spM c k [] ((tl x).drop a)
  | 0, cuts, a, f, ha, h, hn => by
    rw [List.take_zero]
    rw [spM_0, List.nil_append]
    show [tl (strSub x a x.length)] = _
    rw [TL.tl_strSub_end]
  | k + 1, [], a, f, ha, h, hn => by
    have e : f = a := h
    subst e
    show [tl (strSub x f x.length)] = _
    rw [TL.tl_strSub_end]
    have hm : c ∉ (tl x).drop f := fun hm => by
      obtain ⟨j, hj⟩ := List.getElem?_of_mem hm
      rw [List.getElem?_drop] at hj
      exact hn (f + j) (by omega) ((subAt_one x c (f + j)).mpr hj)
    have := spM_run (k := k) (acc := []) (r := []) hm
    rw [List.append_nil] at this
    rw [this]
    rfl
  | k + 1, d :: r, a, f, ha, h, hn => by
    obtain ⟨h1, h2, h3, h4⟩ := h
    have hd : (tl x)[d]? = some c := (subAt_one x c d).mp h2
    have hlt : d < (tl x).length := (List.getElem?_eq_some_iff.mp hd).1
    have he : (tl x)[d] = c := (List.getElem?_eq_some_iff.mp hd).2
    rw [List.take_succ_cons]
    show tl (strSub x a d) :: (partsFrom x _ (d + (⟨#[c]⟩ : Str).length) (r.take k)).map tl = _
    have ih := parts_spM k r (d + (⟨#[c]⟩ : Str).length) f (by show d + 1 ≤ _; omega) h4 hn
    rw [ih, TL.tl_strSub]
    have hm : c ∉ ((tl x).drop a).take (d - a) := fun hm => by
      obtain ⟨j, hj⟩ := List.getElem?_of_mem hm
      have hj2 : j < d - a := by
        have := (List.getElem?_eq_some_iff.mp hj).1
        rw [List.length_take] at this
        omega
      rw [List.getElem?_take_of_lt hj2, List.getElem?_drop] at hj
      exact h3 (a + j) (by omega) (by omega) ((subAt_one x c (a + j)).mpr hj)
    have hs : (tl x).drop a = ((tl x).drop a).take (d - a) ++ c :: (tl x).drop (d + 1) := by
      conv => lhs; rw [← List.take_append_drop (d - a) ((tl x).drop a)]
      congr 1
      rw [List.drop_drop, show a + (d - a) = d by omega, List.drop_eq_getElem_cons hlt, he]
    rw [hs, spM_run hm, List.nil_append]
    show _ = (if c = c then _ else _)
    rw [if_pos rfl]
    rw [← hs]
    rfl
theorem spM_join : ∀ (k : Nat) (ws : List (List Nat)), ws ≠ [] → (∀ w ∈ ws, 32 ∉ w) → spM 32 k [] (joinL [32] ws) = if ws.length ≤ k + 1 then ws else ws.take k ++ [joinL [32] (ws.drop k)]
  | 0, ws, h, _ => by
    rw [spM_0, List.nil_append]
    cases ws with
    | nil => exact absurd rfl h
    | cons a r =>
      cases r with
      | nil => simp [joinL]
      | cons b r => rw [if_neg (by simp)]; simp
  | k + 1, [], h, _ => absurd rfl h
  | k + 1, [a], _, hf => by
    rw [if_pos (by simp)]
    have := spM_run (k := k) (acc := []) (r := []) (hf a (by simp))
    rw [List.append_nil] at this
    show spM 32 (k + 1) [] a = _
    rw [this]; rfl
  | k + 1, a :: b :: r, _, hf => by
    show spM 32 (k + 1) [] (a ++ (32 :: joinL [32] (b :: r))) = _
    rw [spM_run (hf a (by simp)), List.nil_append]
    show (if 32 = 32 then a :: spM 32 k [] (joinL [32] (b :: r)) else _) = _
    rw [if_pos rfl, spM_join k (b :: r) (by simp) fun w hw => hf w (by simp only [List.mem_cons] at hw ⊢; exact .inr hw)]
    by_cases hl : (b :: r).length ≤ k + 1
    · rw [if_pos hl, if_pos (by simp at hl ⊢; omega)]
    · rw [if_neg hl, if_neg (by simp at hl ⊢; omega)]
      rfl
theorem splitMax_join {z : Str} {ws : List (List Nat)} (k : Nat) (hz : tl z = joinL [32] ws) (hne : ws ≠ []) (hf : ∀ w ∈ ws, 32 ∉ w) (hlen : z.length ≠ 0) (hk : k ≠ 0) : (Txt.splitMax z " " (k : Int)).map tl = if ws.length ≤ k + 1 then ws else ws.take k ++ [joinL [32] (ws.drop k)] := by
  rw [← spM_join k ws hne hf, ← hz]
  have hy : (" " : Str) = ⟨#[32]⟩ := ext_tl (by rw [t_sp])
  rw [hy]
  have hl1 : (⟨#[32]⟩ : Str).length = 1 := rfl
  obtain ⟨f, g, hn⟩ := occ_tight z ⟨#[32]⟩ (by rw [hl1]; omega)
  have hlim : Txt.splitMax z ⟨#[32]⟩ (k : Int) = if (decide (z.length < (⟨#[32]⟩ : Str).length) || decide (strKind z < strKind ⟨#[32]⟩)) = true then [z] else
      if (occurrences z ⟨#[32]⟩ 0 z.length k).isEmpty = true then [z] else partsBetween z (occurrences z ⟨#[32]⟩ 0 z.length k) (⟨#[32]⟩ : Str).length := by
    unfold Txt.splitMax
    have : limitOf z (k : Int) = k := by unfold limitOf; rw [if_neg (by omega)]; simp
    rw [this]
  rw [hlim]
  have hkd : ¬ strKind z < strKind (⟨#[32]⟩ : Str) := TL.kind_ok (by decide +kernel)
  rw [if_neg (by rw [hl1]; simp; exact ⟨by omega, by omega⟩)]
  rw [occ_take]
  have key := parts_spM k _ 0 f (Nat.zero_le _) g hn
  rw [List.drop_zero] at key
  by_cases he : ((occurrences z ⟨#[32]⟩ 0 z.length (z.length + 1)).take k).isEmpty = true
  · rw [if_pos he]
    have : (occurrences z ⟨#[32]⟩ 0 z.length (z.length + 1)).take k = [] := List.isEmpty_iff.mp he
    rw [this] at key
    rw [← key]
    show [tl z] = [tl (strSub z 0 z.length)]
    rw [sub_whole]
  · rw [if_neg he, ← key]
    unfold partsBetween
    rw [← zip_parts]
end
open TL (tl ext_tl tl_append joinL numL)
/-! words -/
def isL (c : Nat) : Bool := decide (97 ≤ c) && decide (c ≤ 122)
def isD (c : Nat) : Bool := decide (48 ≤ c) && decide (c ≤ 57)
def RESV : List Str := ["skip", "stop", "if", "new", "proc", "exit", "do", "com", "exp", "val"]
def isNm (z : Str) : Bool := decide (1 ≤ z.length) && decide (z.length ≤ 4) && !(RESV.any fun x => decide (x = z)) && (tl z).all isL
def isNb (z : Str) : Bool := decide (1 ≤ z.length) && decide (z.length ≤ 3) && (tl z).all isD && (decide (z = "0") || decide ((tl z).head? ≠ some 48))
section
variable {s : Slots} {μ : Mem} {Q : U → Mem → Prop} {E : Str → Mem → Prop}
theorem w_leS {a b : Str} : wpE (uLe (.str a) (.str b) μ) Q E = Q (.bl (!strLt b a)) μ := propext ⟨fun h => h, fun h => h⟩
theorem lt_one {a b : Nat} : strLt ⟨#[a]⟩ ⟨#[b]⟩ = decide (a < b) := by
  show (decide (a < b) || (a == b && false)) = _
  rw [Bool.and_false, Bool.or_false]
theorem le_lit {c : Nat} {x : Str} {d : Nat} (h : x = ⟨#[d]⟩) : (!strLt ⟨#[c]⟩ x) = decide (d ≤ c) := by
  subst h
  rw [lt_one, ← decide_not]
  exact decide_eq_decide.mpr (by omega)
theorem le_lit' {c : Nat} {x : Str} {d : Nat} (h : x = ⟨#[d]⟩) : (!strLt x ⟨#[c]⟩) = decide (c ≤ d) := by
  subst h
  rw [lt_one, ← decide_not]
  exact decide_eq_decide.mpr (by omega)
theorem l_a : ("a" : Str) = ⟨#[97]⟩ := by decide +kernel
theorem l_z : ("z" : Str) = ⟨#[122]⟩ := by decide +kernel
theorem l_0 : ("0" : Str) = ⟨#[48]⟩ := by decide +kernel
theorem l_9 : ("9" : Str) = ⟨#[57]⟩ := by decide +kernel
end
structure LetterS (g : List U → Mem → Res U) : Prop where
  ap : ∀ {c : Nat} {μ : Mem} {Q : U → Mem → Prop} {E : Str → Mem → Prop}, Q (.bl (isL c)) μ → wpE (g [.str ⟨#[c]⟩] μ) Q E
theorem letter_s {C : Calls} : LetterS (runDef 1 (b_is_letter C)) := by
  constructor
  intro c μ Q E q
  unfold b_is_letter
  walk_at "go"
  rw [w_leS, le_lit l_a]
  refine ⟨_, rfl, ?_⟩
  unfold isL at q
  by_cases h : 97 ≤ c
  · rw [if_pos (by simpa using h), w_leS, le_lit' l_z]
    rw [decide_eq_true h, Bool.true_and] at q
    exact q
  · rw [if_neg (by simpa using h)]
    rw [decide_eq_false h, Bool.false_and] at q
    exact q
structure NameS (g : List U → Mem → Res U) : Prop where
  ap : ∀ {z : Str} {μ : Mem} {Q : U → Mem → Prop} {E : Str → Mem → Prop}, z.length ≤ 5000 → (∀ μ', Fr μ μ' → Q (.bl (isNm z)) μ') → wpE (g [.str z] μ) Q E
theorem signs_len {z : Str} : (signsU z).length = z.length := by unfold signsU; rw [List.length_map, TL.len_tl]
theorem name_s {C : Calls} (h0 : LetterS (C 0)) : NameS (runDef 2 (b_is_name C)) := by
  constructor
  intro z μ Q E hz q
  unfold b_is_name
  walk_at "go"
  have hzl : z.length ≤ lim := Nat.le_trans hz (by decide)
  rw [w_lenS]
  refine ⟨hzl, ?_⟩
  try walk_at "go"
  by_cases h1 : 1 ≤ z.length
  · rw [if_pos (by omega)]
    by_cases h2 : z.length ≤ 4
    · rw [if_neg (by simp; omega), w_in]
      refine ⟨_, in_strs (xs := RESV), _, rfl, ?_⟩
      cases h3 : RESV.any fun x => decide (x = z) with
      | true =>
        rw [if_pos rfl]
        have : isNm z = false := by unfold isNm; rw [h3]; simp
        rw [← this]; exact q μ .refl
      | false =>
        rw [if_neg (by decide)]
        refine lc_map (fun u => match u with | .str x => .bl (isL (x.cps.getD 0 0)) | _ => .non) (by rw [signs_len]; omega) (fun i μ' hi f => ?_) fun μ' f c => ?_
        · have ei : (signsU z)[i] = .str ⟨#[(tl z)[i]'(by rw [signs_len, TL.len_tl] at hi; exact hi)]⟩ := by simp [signsU]
          rw [ei]
          refine ⟨_, rfl, ?_⟩
          walk_at "go"
          refine h0.ap ?_
          exact ⟨rfl, .refl⟩
        · have e : ((signsU z).map fun u => match u with | .str x => U.bl (isL (x.cps.getD 0 0)) | _ => .non) = (tl z).map fun c => U.bl (isL c) := by
            unfold signsU
            rw [List.map_map]
            rfl
          rw [e] at c
          rw [w_allL c (blsU_map isL (tl z))]
          have : isNm z = ((tl z).map isL).all id := by
            unfold isNm
            rw [h3, decide_eq_true h1, decide_eq_true h2, List.all_map]
            rfl
          rw [← this]
          exact q _ f
    · rw [if_pos (by simp; omega)]
      have : isNm z = false := by unfold isNm; simp [h2]
      rw [← this]; exact q μ .refl
  · rw [if_neg (by omega)]
    have : isNm z = false := by unfold isNm; simp [h1]
    rw [← this]; exact q μ .refl
structure NumberS (g : List U → Mem → Res U) : Prop where
  ap : ∀ {z : Str} {μ : Mem} {Q : U → Mem → Prop} {E : Str → Mem → Prop}, z.length ≤ 5000 → (∀ μ', Fr μ μ' → Q (.bl (isNb z)) μ') → wpE (g [.str z] μ) Q E
theorem w_ixS {z : Str} {i : Nat} {μ : Mem} {Q : U → Mem → Prop} {E : Str → Mem → Prop} (hz : z.length ≤ lim) (hi : i < (tl z).length) : wpE (ixU (.str z) (.int (i : Int)) μ) Q E = Q (.str ⟨#[(tl z)[i]]⟩) μ := by
  have : ixU (.str z) (.int (i : Int)) μ = .ok (.str ⟨#[(tl z)[i]]⟩) μ := by
    unfold ixU
    have e0 : dctU μ (.str z) = none := rfl
    simp only [e0, hz, if_true]
    rw [Dg.atI_nat, List.getElem?_eq_getElem hi]
    rfl
  rw [this]; rfl
theorem w_ixS0 {z : Str} {μ : Mem} {Q : U → Mem → Prop} {E : Str → Mem → Prop} (hz : z.length ≤ lim) (hi : 0 < (tl z).length) (q : Q (.str ⟨#[(tl z)[0]]⟩) μ) : wpE (ixU (.str z) (.int 0) μ) Q E := by
  have := w_ixS (μ := μ) (Q := Q) (E := E) hz hi
  exact this.mpr q
theorem number_s {C : Calls} : NumberS (runDef 2 (b_is_number C)) := by
  constructor
  intro z μ Q E hz q
  unfold b_is_number
  walk_at "go"
  have hzl : z.length ≤ lim := Nat.le_trans hz (by decide)
  rw [w_lenS]
  refine ⟨hzl, ?_⟩
  try walk_at "go"
  by_cases h1 : 1 ≤ z.length
  · rw [if_pos (by omega)]
    by_cases h2 : z.length ≤ 3
    · rw [if_neg (by simp; omega)]
      refine lc_map (fun u => match u with | .str x => .bl (isD (x.cps.getD 0 0)) | _ => .non) (by rw [signs_len]; omega) (fun i μ' hi f => ?_) fun μ' f c => ?_
      · have ei : (signsU z)[i] = .str ⟨#[(tl z)[i]'(by rw [signs_len, TL.len_tl] at hi; exact hi)]⟩ := by simp [signsU]
        rw [ei]
        refine ⟨_, rfl, ?_⟩
        walk_at "go"
        rw [w_leS, le_lit l_0]
        refine ⟨_, rfl, ?_⟩
        generalize (tl z)[i]'(by rw [signs_len, TL.len_tl] at hi; exact hi) = d
        by_cases h : 48 ≤ d
        · rw [if_pos (by simpa using h), w_leS, le_lit' l_9]
          refine ⟨?_, .refl⟩
          show U.bl (decide (d ≤ 57)) = U.bl (isD d)
          unfold isD
          rw [decide_eq_true h, Bool.true_and]
        · rw [if_neg (by simpa using h)]
          refine ⟨?_, .refl⟩
          show false = isD d
          unfold isD
          rw [decide_eq_false h, Bool.false_and]
      · have e : ((signsU z).map fun u => match u with | .str x => U.bl (isD (x.cps.getD 0 0)) | _ => .non) = (tl z).map fun c => U.bl (isD c) := by
          unfold signsU
          rw [List.map_map]
          rfl
        rw [e] at c
        rw [w_allL c (blsU_map isD (tl z))]
        try walk_at "go"
        refine ⟨_, tru_b, ?_⟩
        rw [List.all_map]
        cases h3 : (tl z).all (id ∘ isD) with
        | false =>
          rw [if_pos (by decide)]
          have : isNb z = false := by
            unfold isNb
            rw [show (tl z).all isD = false from h3]
            simp
          rw [← this]; exact q _ f
        | true =>
          rw [if_neg (by decide)]
          have h0 : 0 < (tl z).length := by rw [← TL.len_tl]; omega
          have e0 : isNb z = (decide (z = "0") || decide ((tl z).head? ≠ some 48)) := by
            unfold isNb
            rw [show (tl z).all isD = true from h3, decide_eq_true h1, decide_eq_true h2]
            rfl
          by_cases hz0 : z = "0"
          · rw [if_pos (by simpa using hz0)]
            have : isNb z = true := by rw [e0, decide_eq_true hz0]; rfl
            rw [← this]; exact q _ f
          · rw [if_neg (by simpa using hz0)]
            refine w_ixS0 hzl h0 ?_
            refine ⟨_, Dg.eq_str, ?_⟩
            have e1 : (decide ((tl z).head? ≠ some 48)) = !decide ((⟨#[(tl z)[0]]⟩ : Str) = "0") := by
              rw [← decide_not]
              refine decide_eq_decide.mpr ?_
              rw [List.head?_eq_getElem?, List.getElem?_eq_getElem h0, l_0]
              constructor
              · intro a b
                apply a
                have := congrArg tl b
                have h4 : [(tl z)[0]] = [48] := this
                rw [(List.cons.inj h4).1]
              · intro a b
                apply a
                rw [Option.some.inj b]
            have : isNb z = !decide ((⟨#[(tl z)[0]]⟩ : Str) = "0") := by rw [e0, decide_eq_false hz0, Bool.false_or, e1]
            rw [← this]; exact q _ f
    · rw [if_pos (by simp; omega)]
      have : isNb z = false := by unfold isNb; simp [h2]
      rw [← this]; exact q μ .refl
  · rw [if_neg (by omega)]
    have : isNb z = false := by unfold isNb; simp [h1]
    rw [← this]; exact q μ .refl
/-! fields -/
def fitsF (z f : Str) : Bool := if f = "number" then isNb z else isNm z
structure FitsS (g : List U → Mem → Res U) : Prop where
  ap : ∀ {z f : Str} {μ : Mem} {Q : U → Mem → Prop} {E : Str → Mem → Prop}, z.length ≤ 5000 → (∀ μ', Fr μ μ' → Q (.bl (fitsF z f)) μ') → wpE (g [.str z, .str f] μ) Q E
theorem fits_s {C : Calls} (h1 : NameS (C 1)) (h2 : NumberS (C 2)) : FitsS (runDef 2 (b_fits_field C)) := by
  constructor
  intro z f μ Q E hz q
  unfold b_fits_field
  walk_at "go"
  unfold fitsF at q
  by_cases h : f = "number"
  · rw [if_pos h]
    exact h2.ap hz fun μ' fr => by have := q μ' fr; rw [if_pos h] at this; exact this
  · rw [if_neg h]
    exact h1.ap hz fun μ' fr => by have := q μ' fr; rw [if_neg h] at this; exact this
theorem nb_int {z : Str} (h : isNb z = true) : PySem.intText? z = some ((NumText.digitsVal (tl z) : Nat) : Int) ∧ z.length ≤ 3 := by
  unfold isNb at h
  simp only [Bool.and_eq_true, decide_eq_true_eq] at h
  obtain ⟨⟨⟨h1, h2⟩, h3⟩, h4⟩ := h
  refine ⟨PySem.intText_digits (fun c hc => ?_) (fun e => ?_) (by omega), h2⟩
  · have := List.all_eq_true.mp h3 c hc
    unfold isD at this
    simp only [Bool.and_eq_true, decide_eq_true_eq] at this
    omega
  · rw [TL.len_tl, show tl z = [] from e] at h1
    simp at h1
/-! lines by their words -/
def FTS : List (Str × List Str) := [("show", ["piece"]), ("fill", ["piece", "piece", "made"]), ("run", ["piece"]), ("same", ["piece", "piece"]), ("differ", ["piece", "piece"]), ("witness", ["piece", "piece", "made"]), ("certify", ["piece", "piece"]), ("twin", ["module", "module"]), ("rule", ["piece", "piece"]), ("apply", ["number", "piece", "number", "made"]), ("simplify", ["piece", "made"]), ("code", ["piece"]), ("attack", ["piece", "piece"])]
theorem tab_is : tab_FORMS = FTS.map fun p => (p.1, .tup (p.2.map U.str)) := rfl
def LM : List Str := ["let", "module"]
def convF (z f : Str) : U := if f = "number" then .int ((NumText.digitsVal (tl z) : Nat) : Int) else .str z
/-- what is read of words -/
def withT (a : Str) : List Str → Option (List U)
  | b :: c :: d :: r => if isNm b = true ∧ c = "=" then some [.str a, .str b, .str (Txt.join " " (d :: r))] else none
  | _ => none
def formF (a : Str) (rest : List Str) : Option (List Str) → Option (List U)
  | some fs => if rest.length = fs.length ∧ (List.zipWith fitsF rest fs).all id = true then some (.str a :: List.zipWith convF rest fs) else none
  | none => none
def rcW : List Str → Option (List U)
  | [] => none
  | a :: rest => if a ∈ LM then withT a rest else formF a rest (FTS.lookup a)
def optU : Option (List U) → U
  | some us => .tup us
  | none => .non
def resW (ws : List Str) : U := if ws = [("" : Str)] then .tup [] else optU (rcW ws)
/-- words of a line -/
structure WOk (z : Str) (ws : List Str) : Prop where
  ne : ws ≠ []
  fr : ∀ w ∈ ws, 32 ∉ tl w
  ok : ∀ w ∈ ws, ∀ c ∈ tl w, c < 1114112
  eq : z = Txt.join " " ws
  len : z.length ≤ 4000
theorem in_joinL {p : List Nat} {S : List Nat} : ∀ {ps : List (List Nat)}, p ∈ ps → p.length ≤ (joinL S ps).length
  | [q], h => by rw [List.mem_singleton.mp h]; exact Nat.le_refl _
  | q :: r :: ps, h => by
    show _ ≤ (q ++ (S ++ joinL S (r :: ps))).length
    rw [List.length_append, List.length_append]
    rcases List.mem_cons.mp h with rfl | h
    · omega
    · have := in_joinL (S := S) h
      omega
theorem WOk.wl {z : Str} {ws : List Str} (o : WOk z ws) : ∀ w ∈ ws, w.length ≤ 4000 := fun w hw => by
  have h := o.len
  rw [o.eq, TL.len_tl, tl_joinS] at h
  rw [TL.len_tl]
  exact Nat.le_trans (in_joinL (List.mem_map_of_mem hw)) h
theorem WOk.sok {z : Str} {ws : List Str} (o : WOk z ws) : ∀ w ∈ ws, PyData.strOk w = true := fun w hw => Lw.sok (o.ok w hw)
theorem WOk.sp {z : Str} {ws : List Str} (o : WOk z ws) : Txt.split z " " = ws := by
  rw [o.eq]
  exact TL.split_join (y := " ") (s := 32) (S := []) t_sp (by decide +kernel) o.ne o.fr
theorem join_ok' {ws : List Str} (h : ∀ w ∈ ws, ∀ c ∈ tl w, c < 1114112) : PyData.strOk (Txt.join " " ws) = true := by
  refine Lw.sok fun c hc => ?_
  rw [tl_joinS] at hc
  rcases join_mem hc with h1 | ⟨p, hp, h1⟩
  · rw [List.mem_singleton.mp h1]; decide
  · obtain ⟨x, hx, rfl⟩ := List.mem_map.mp hp
    exact h x hx c h1
theorem WOk.sm {z : Str} {ws : List Str} (o : WOk z ws) (hz : z.length ≠ 0) : Txt.splitMax z " " 3 = if ws.length ≤ 4 then ws else ws.take 3 ++ [Txt.join " " (ws.drop 3)] := by
  refine TL.map_tl_inj ?_
  have := splitMax_join (z := z) (ws := ws.map tl) 3 (by rw [o.eq, tl_joinS]) (by simpa using o.ne) (fun w hw => by
    obtain ⟨x, hx, rfl⟩ := List.mem_map.mp hw
    exact o.fr x hx) hz (by decide)
  rw [List.length_map] at this
  refine this.trans ?_
  split
  · rfl
  · rw [List.map_append, List.map_take, List.map_cons, List.map_nil, tl_joinS, List.map_drop]
open TL (tl ext_tl tl_append joinL numL)
theorem w_splitM {z : Str} {parts : List Str} {μ : Mem} {Q : U → Mem → Prop} {E : Str → Mem → Prop} (e : Txt.splitMax z " " 3 = parts) (hz : z.length + 2 ≤ lim) (ok : ∀ p ∈ parts, PyData.strOk p = true) : wpE (gSplit (.str z) [.str " ", .int 3] μ) Q E = Q (.ref μ.length) (μ ++ [.lst (parts.map U.str)]) := by
  have : gSplit (.str z) [.str " ", .int 3] μ = .ok (.ref μ.length) (μ ++ [.lst (parts.map U.str)]) := by
    unfold gSplit
    simp only [e]
    rw [if_pos ⟨by decide +kernel, hz, List.all_eq_true.mpr ok, by decide, by decide⟩]
  rw [this]; rfl
structure WithTextS (g : List U → Mem → Res U) : Prop where
  ap : ∀ {z a : Str} {rest : List Str} {μ : Mem} {Q : U → Mem → Prop} {E : Str → Mem → Prop}, WOk z (a :: rest) → a ∈ LM → (∀ μ', Fr μ μ' → Q (resW (a :: rest)) μ') → wpE (g [.str z] μ) Q E
theorem with_text_s {C : Calls} (h1 : NameS (C 1)) : WithTextS (runDef 2 (b_read_with_text C)) := by
  constructor
  intro z a rest μ Q E o ha q
  have hane : a ≠ "" := fun e => by rw [e] at ha; exact absurd ha (by decide)
  have hz0 : z.length ≠ 0 := by
    have := in_joinL (S := [32]) (List.mem_map_of_mem (f := tl) (show a ∈ a :: rest by simp))
    rw [← tl_joinS, ← o.eq] at this
    rw [TL.len_tl]
    intro e
    have h0 : tl a = [] := List.length_eq_zero_iff.mp (by omega)
    exact hane (ext_tl h0)
  have hzl : z.length + 2 ≤ lim := Nat.le_trans (show _ ≤ 5000 by have := o.len; omega) (by decide)
  have hr0 : resW (a :: rest) = optU (withT a rest) := by
    unfold resW
    rw [if_neg (fun e => hane (List.cons.inj e).1)]
    show optU (if a ∈ LM then _ else _) = _
    rw [if_pos ha]
  unfold b_read_with_text
  walk_at "go"
  rw [w_mtS]
  walk_at "go"
  have hs := o.sm hz0
  have hok : ∀ p ∈ Txt.splitMax z " " 3, PyData.strOk p = true := fun p hp => by
    rw [hs] at hp
    split at hp
    · exact o.sok p hp
    · rcases List.mem_append.mp hp with hp | hp
      · exact o.sok p (List.mem_of_mem_take hp)
      · rw [List.mem_singleton.mp hp]
        exact join_ok' fun w hw => o.ok w (List.mem_of_mem_drop hw)
  rw [w_splitM rfl hzl hok]
  have cp : (μ ++ [Cell.lst ((Txt.splitMax z " " 3).map U.str)])[μ.length]? = some (.lst ((Txt.splitMax z " " 3).map U.str)) := get_snoc
  have fp : Fr μ (μ ++ [Cell.lst ((Txt.splitMax z " " 3).map U.str)]) := Fr.refl.snoc
  generalize (μ ++ [Cell.lst ((Txt.splitMax z " " 3).map U.str)]) = μ1 at *
  try walk_at "go"
  rw [w_lenL cp]
  try walk_at "go"
  rw [List.length_map]
  have wl := o.wl
  match rest with
  | [] =>
    rw [if_pos (by rw [hs]; simp)]
    rw [hr0] at q; exact q μ1 fp
  | [b] =>
    rw [if_pos (by rw [hs]; simp)]
    rw [hr0] at q; exact q μ1 fp
  | [b, c] =>
    rw [if_pos (by rw [hs]; simp)]
    rw [hr0] at q; exact q μ1 fp
  | b :: c :: d :: r =>
    have e4 : Txt.splitMax z " " 3 = [a, b, c, Txt.join " " (d :: r)] := by
      rw [hs]
      cases r with
      | nil =>
        rw [if_pos (by simp)]
        have : Txt.join " " [d] = d := ext_tl (by rw [tl_joinS]; rfl)
        rw [this]
      | cons x r => rw [if_neg (by simp)]; rfl
    rw [e4] at cp ⊢
    rw [if_neg (by simp), w_ixL cp]
    refine ⟨.str b, rfl, ?_⟩
    refine h1.ap (Nat.le_trans (wl b (by simp)) (by decide)) fun μ2 f2 => ?_
    have cp2 := f2.at_ _ _ cp
    refine ⟨_, tru_b, ?_⟩
    rw [hr0] at q
    replace q : ∀ μ', Fr μ μ' → Q (optU (if isNm b = true ∧ c = "=" then some [.str a, .str b, .str (Txt.join " " (d :: r))] else none)) μ' := q
    cases hb : isNm b with
    | false =>
      rw [if_pos (by decide)]
      rw [if_neg (by rw [hb]; simp)] at q
      exact q μ2 (fp.trans f2)
    | true =>
      rw [if_neg (by decide), w_ixL cp2]
      refine ⟨.str c, rfl, _, Dg.eq_str, ?_⟩
      by_cases hc : c = "="
      · rw [if_neg (by simp [hc])]
        rw [if_pos ⟨hb, hc⟩] at q
        rw [w_ixL cp2]
        refine ⟨.str a, rfl, ?_⟩
        rw [w_ixL cp2]
        refine ⟨.str b, rfl, ?_⟩
        rw [w_ixL cp2]
        refine ⟨.str (Txt.join " " (d :: r)), rfl, ?_⟩
        exact q μ2 (fp.trans f2)
      · rw [if_pos (by simpa using hc)]
        rw [if_neg (fun x => hc x.2)] at q
        exact q μ2 (fp.trans f2)
/-! read_command -/
theorem s_star {i j : Nat} {a : FE} {s : Slots} {μ : Mem} {D : Dn} : Dg.wpS (sStar i j a s μ) D = wpE (a s μ) (fun u μ1 => ∃ x xs, lstU μ1 u = some (x :: xs) ∧ D.nx (setAll [i, j] [x, .ref μ1.length] s) (μ1 ++ [.lst xs])) (fun c μ => D.ex c s μ) := by
  unfold sStar; rw [w_ofR]; congr 1; funext u μ1
  cases lstU μ1 u with
  | none => simp [Dg.wpS]
  | some us =>
    cases us with
    | nil => simp [Dg.wpS]
    | cons x xs =>
      apply propext
      constructor
      · intro h; exact ⟨x, xs, rfl, h⟩
      · rintro ⟨y, ys, e, h⟩
        cases e
        exact h
theorem t_knin {ks : List Str} {a : FE} {s : Slots} {μ : Mem} {Q : Bool → Mem → Prop} {E : Str → Mem → Prop} : wpE (tKNin ks a s μ) Q E = wpE (a s μ) (fun u μ1 => ∃ z, u = .str z ∧ Q (!decide (z ∈ ks)) μ1) E := by
  unfold tKNin; rw [w_bind]; congr 1; funext u μ1
  cases u <;> simp [wpE]
theorem w_kget {tab : List (Str × U)} {i : FE} {s : Slots} {μ : Mem} {Q : U → Mem → Prop} {E : Str → Mem → Prop} : wpE (fKGet tab i s μ) Q E = wpE (i s μ) (fun u μ1 => ∃ z, u = .str z ∧ ∃ w, tab.lookup z = some w ∧ Q w μ1) E := by
  unfold fKGet; rw [w_bind]; congr 1; funext u μ1
  cases u with
  | str z => simp [w_res]
  | _ => simp [wpE]
theorem w_intT {z : Str} {μ : Mem} {Q : U → Mem → Prop} {E : Str → Mem → Prop} (h : isNb z = true) : wpE (bIntT [.str z] μ) Q E = Q (.int ((NumText.digitsVal (tl z) : Nat) : Int)) μ := by
  obtain ⟨h1, h2⟩ := nb_int h
  have : bIntT [.str z] μ = .ok (.int ((NumText.digitsVal (tl z) : Nat) : Int)) μ := by
    unfold bIntT
    simp only [h1]
    rw [if_pos (by omega)]
  rw [this]; rfl
theorem w_zipW {a b : FE} {r : Nat} {us ws : List U} {s : Slots} {μ : Mem} {Q : IterU → Mem → Prop} {E : Str → Mem → Prop} (h1 : a s μ = .ok (.ref r) μ) (h2 : b s μ = .ok (.tup us) μ) (h3 : μ[r]? = some (.lst ws)) : wpE (iZipW a b s μ) Q E = Q (.zipQ r us) μ := by
  unfold iZipW
  rw [h1]
  simp only [Res.bind, h2, listAt_L h3]
  rfl
theorem item_zipQ {r i : Nat} {us ws : List U} {μ : Mem} (h : μ[r]? = some (.lst ws)) : Dg.itemAt (.zipQ r us) i μ = some ((List.zipWith (fun w u => U.tup [w, u]) ws us)[i]?) := by
  simp only [Dg.itemAt, listAt_L h]
  rw [List.getElem?_zipWith]
  cases ws[i]? <;> cases us[i]? <;> rfl
/-- a comprehension over zip(list, tuple) -/
theorem lc_mapQ {own : List Nat} {g : Tgt} {e : FE} {s : Slots} {r : Nat} {μ0 : Mem} {Q : U → Mem → Prop} {E : Str → Mem → Prop} {ws us : List U} (f : U → U) (hr : μ0[r]? = some (.lst ws)) (hn : ws.length < 1000000)
    (step : ∀ i μ' (h : i < (List.zipWith (fun w u => U.tup [w, u]) ws us).length), Fr μ0 μ' → ∃ s1, setT g (List.zipWith (fun w u => U.tup [w, u]) ws us)[i] (Dg.wipeU s own) = some s1 ∧ wpE (e s1 μ') (fun w μ'' => w = f (List.zipWith (fun w u => U.tup [w, u]) ws us)[i] ∧ Fr μ' μ'') (fun _ _ => False))
    (fin : ∀ μ', Fr μ0 μ' → μ'[μ0.length]? = some (.lst ((List.zipWith (fun w u => U.tup [w, u]) ws us).map f)) → Q (.ref μ0.length) μ') : wpE (lcGo (.zipQ r us) own g tAll e s μ0.length fuelF 0 (μ0 ++ [.lst []])) Q E := by
  have hzl : (List.zipWith (fun w u => U.tup [w, u]) ws us).length ≤ ws.length := by rw [List.length_zipWith]; omega
  generalize hz : List.zipWith (fun w u => U.tup [w, u]) ws us = zs at *
  refine lc_go (fun i μ' => i ≤ zs.length ∧ Fr μ0 μ' ∧ μ'[μ0.length]? = some (.lst ((zs.take i).map f))) zs.length (by omega) ⟨Nat.zero_le _, Fr.refl.snoc, by simp⟩ (fun i μ h => h.1) ?_
  rintro i μ1 ⟨hi, f1, c1⟩
  rw [item_zipQ (f1.at_ _ _ hr), hz]
  by_cases h1 : i < zs.length
  · right
    obtain ⟨s1, a1, a2⟩ := step i μ1 h1 f1
    refine ⟨zs[i], s1, by rw [List.getElem?_eq_getElem h1], a1, ?_⟩
    rw [w_all, if_pos rfl]
    refine wpE.mono a2 ?_
    rintro w μ2 ⟨rfl, f2⟩
    refine ⟨_, f2.at_ _ _ c1, by simp [lim]; omega, by omega, (f1.trans f2).put (Nat.le_refl _), ?_⟩
    rw [get_set (f2.at_ _ _ c1), take_snoc h1, List.map_append]
    rfl
  · left
    have : i = zs.length := by omega
    subst this
    rw [List.take_length] at c1
    exact ⟨by rw [List.getElem?_eq_none (by omega)], fin μ1 f1 c1⟩
structure ReadS (g : List U → Mem → Res U) : Prop where
  ap : ∀ {z : Str} {ws : List Str} {μ : Mem} {Q : U → Mem → Prop} {E : Str → Mem → Prop}, WOk z ws → (∀ μ', Fr μ μ' → Q (resW ws) μ') → wpE (g [.str z] μ) Q E
theorem lm_in {a : Str} {μ : Mem} : inU (.str a) (.tup [.str "let", .str "module"]) μ = some (decide (a ∈ LM)) := by
  have h := in_strs (t := a) (xs := LM) (μ := μ)
  have e : (LM.any fun x => decide (x = a)) = decide (a ∈ LM) := by
    simp only [LM, List.any_cons, List.any_nil, List.mem_cons, List.not_mem_nil, or_false, Bool.or_false, Bool.decide_or]
    congr 1 <;> exact decide_eq_decide.mpr ⟨fun h => h.symm, fun h => h.symm⟩
  rw [e] at h
  exact h
theorem fts_lookup (a : Str) : tab_FORMS.lookup a = (FTS.lookup a).map fun fs => .tup (fs.map U.str) := by
  rw [tab_is]
  generalize FTS = l
  induction l with
  | nil => rfl
  | cons p l ih =>
    rw [List.map_cons, List.lookup_cons, List.lookup_cons]
    cases a == p.1 with
    | true => rfl
    | false => exact ih
theorem fts_mem (a : Str) : a ∈ (["show", "fill", "run", "same", "differ", "witness", "certify", "twin", "rule", "apply", "simplify", "code", "attack"] : List Str) ↔ (FTS.lookup a).isSome = true := by
  have e : (["show", "fill", "run", "same", "differ", "witness", "certify", "twin", "rule", "apply", "simplify", "code", "attack"] : List Str) = FTS.map (·.1) := rfl
  rw [e]
  generalize FTS = l
  induction l with
  | nil => simp
  | cons p l ih =>
    rw [List.map_cons, List.lookup_cons, List.mem_cons]
    by_cases h : a = p.1
    · subst h; simp
    · have : (a == p.1) = false := by simpa using h
      rw [this]
      exact ⟨fun h' => ih.mp (h'.resolve_left h), fun h' => .inr (ih.mpr h')⟩
theorem read_s {C : Calls} (h3 : FitsS (C 3)) (h4 : WithTextS (C 4)) : ReadS (runDef 6 (b_read_command C)) := by
  constructor
  intro z ws μ Q E o q
  obtain ⟨a, rest, rfl⟩ : ∃ a rest, ws = a :: rest := by
    cases ws with
    | nil => exact absurd rfl o.ne
    | cons a r => exact ⟨a, r, rfl⟩
  unfold b_read_command
  walk_at "go"
  by_cases hz : z = ""
  · rw [if_pos hz]
    have he : a :: rest = [("" : Str)] := by
      have := o.eq
      rw [hz] at this
      have h1 := congrArg tl this
      rw [tl_joinS] at h1
      cases rest with
      | nil =>
        have : tl a = [] := h1.symm
        rw [show a = "" from ext_tl this]
      | cons b r =>
        have h2 : ([] : List Nat) = tl a ++ ([32] ++ _) := h1
        have := congrArg List.length h2
        simp at this
    have := q μ .refl
    unfold resW at this
    rw [if_pos he] at this
    exact this
  rw [if_neg hz, s_star, w_mtS]
  walk_at "go"
  have hzl : z.length + 2 ≤ lim := Nat.le_trans (show _ ≤ 5000 by have := o.len; omega) (by decide)
  rw [w_splitS o.sp (by decide +kernel) hzl o.sok]
  refine ⟨.str a, rest.map U.str, lstU_L get_snoc, ?_⟩
  have f0 : Fr μ (μ ++ [Cell.lst ((a :: rest).map U.str)] ++ [Cell.lst (rest.map U.str)]) := Fr.refl.snoc.snoc
  have cr : (μ ++ [Cell.lst ((a :: rest).map U.str)] ++ [Cell.lst (rest.map U.str)])[(μ ++ [Cell.lst ((a :: rest).map U.str)]).length]? = some (.lst (rest.map U.str)) := get_snoc
  generalize (μ ++ [Cell.lst ((a :: rest).map U.str)] ++ [Cell.lst (rest.map U.str)]) = μ1 at *
  generalize (μ ++ [Cell.lst ((a :: rest).map U.str)]).length = r at *
  simp (config := {decide := true}) only [Dg.setAll, w_run, w_geXI, w_geXP, w_lz, w_op, w_isi, Dg.wipeU, w_powI, w_intB, w_sl, w_oNone, w_oSome, w_slT, w_slF, w_ixF, w_lenF, w_abs, w_max2, w_min2, w_fdivI, w_neg, w_andE, w_orE, w_notE, w_chain, w_c, w_var, w_call, w_def, w_anil, w_acons, w_tup, w_lst, w_int, w_intB, w_lenT, w_addI, w_subI, w_modI, w_mulI, w_ltI, w_leI, w_gtI, w_geI, w_eq, w_ne, w_ixT, w_if, w_nt, w_an, w_or, w_all, w_tstB, w_tst, w_app, w_lc, w_for, w_iseqT, w_rg1, w_rev1, w_d0, Dg.eq_str, Dg.eq_int, s_seq, s_next, s_brk, s_cnt, s_expr, s_ret, s_retN, s_if, w_getE, w_items, w_keys, w_fmt, w_js0, w_js, s_asg1, s_store, s_tryAs, s_try, w_isX, s_raise, List.map_cons, List.map_nil, List.cons_append, List.nil_append, List.length_cons, List.length_nil, List.replicate_succ, List.replicate_zero, Nat.add_sub_cancel, Nat.sub_self, Nat.sub_zero, Nat.reduceAdd, Nat.reduceSub, Nat.zero_add, List.set_cons_succ, List.set_cons_zero, List.getElem?_cons_zero, List.getElem?_cons_succ, Option.some.injEq, exists_eq_left', exists_eq_left, exists_eq_right', U.bl.injEq, U.int.injEq, U.ref.injEq, U.str.injEq, atI_0, atI_1, atI_2, atI_3, atI_4, atI_5, if_true, if_false, true_and, and_true, decide_true, decide_false, Bool.not_true, Bool.not_false, reduceCtorEq, ite_true, ite_false, decide_eq_true_eq, Bool.true_eq_false, Bool.false_eq_true]
  rw [w_in, lm_in]
  refine ⟨_, rfl, _, rfl, ?_⟩
  by_cases hl : a ∈ LM
  · rw [if_pos (by simpa using hl)]
    exact h4.ap o hl fun μ' f => q μ' (f0.trans f)
  rw [if_neg (by simpa using hl), t_knin]
  walk_at "go"
  have hne : a :: rest ≠ [("" : Str)] := fun e => by
    have := o.eq
    rw [e] at this
    exact hz (this.trans (ext_tl (by rw [tl_joinS]; rfl)))
  have hr : resW (a :: rest) = optU (formF a rest (FTS.lookup a)) := by
    unfold resW
    rw [if_neg hne]
    show optU (if a ∈ LM then _ else _) = _
    rw [if_neg hl]
  rw [hr] at q
  cases hf : FTS.lookup a with
  | none =>
    rw [hf] at q
    rw [if_pos (by
      rw [decide_eq_false (fun h => by have := (fts_mem a).mp h; rw [hf] at this; cases this)]
      rfl)]
    exact q μ1 f0
  | some fs =>
    rw [hf] at q
    replace q : ∀ μ', Fr μ μ' → Q (optU (if rest.length = fs.length ∧ (List.zipWith fitsF rest fs).all id = true then some (.str a :: List.zipWith convF rest fs) else none)) μ' := q
    rw [if_neg (by
      rw [decide_eq_true ((fts_mem a).mpr (by rw [hf]; rfl))]
      decide)]
    rw [w_lenL cr]
    try walk_at "go"
    rw [w_kget]
    walk_at "go"
    refine ⟨_, by rw [fts_lookup, hf]; rfl, ?_⟩
    rw [show bLen [(fun fs : List Str => U.tup (fs.map U.str)) fs] μ1 = Res.ok (U.int ((fs.length : Nat) : Int)) μ1 from by show Res.ok (U.int ((fs.map U.str).length : Nat)) μ1 = _; rw [List.length_map]]
    refine ⟨_, Dg.eq_int, ?_⟩
    rw [List.length_map]
    by_cases hlen : rest.length = fs.length
    · rw [if_neg (by simp [hlen]), w_kget]
      walk_at "go"
      refine ⟨_, by rw [fts_lookup, hf]; rfl, ?_⟩
      rw [w_zipW (us := fs.map U.str) (ws := rest.map U.str) rfl rfl cr]
      have hwl := o.wl
      have zl : List.zipWith (fun w u => U.tup [w, u]) (rest.map U.str) (fs.map U.str) = (List.zipWith (fun w f => (w, f)) rest fs).map fun p : Str × Str => U.tup [.str p.1, .str p.2] := by
        rw [List.zipWith_map, List.map_zipWith]
      have l1 : rest.length < 1000000 := by
        have h1 := o.len
        have h2 : fs.length ≤ 100 := by
          have : ∀ p ∈ FTS, p.2.length ≤ 100 := by decide +kernel
          obtain ⟨p, hp, e⟩ : ∃ p ∈ FTS, p.2 = fs := by
            have : ∀ (l : List (Str × List Str)), l.lookup a = some fs → ∃ p ∈ l, p.2 = fs := by
              intro l
              induction l with
              | nil => intro h; cases h
              | cons p l ih =>
                intro h
                rw [List.lookup_cons] at h
                cases hb : a == p.1 with
                | true => rw [hb] at h; exact ⟨p, by simp, Option.some.inj h⟩
                | false => rw [hb] at h; obtain ⟨x, hx, e⟩ := ih h; exact ⟨x, by simp [hx], e⟩
            exact this FTS hf
          rw [← e]; exact this p hp
        omega
      have at_ : ∀ (i : Nat) (h : i < (List.zipWith (fun w u => U.tup [w, u]) (rest.map U.str) (fs.map U.str)).length), ∃ w ∈ rest, ∃ f : Str, (List.zipWith (fun w u => U.tup [w, u]) (rest.map U.str) (fs.map U.str))[i] = U.tup [.str w, .str f] ∧ (w, f) ∈ List.zipWith (fun w f => (w, f)) rest fs := fun i h => by
        have h1 : i < rest.length := by rw [List.length_zipWith, List.length_map] at h; omega
        have h2 : i < fs.length := by omega
        refine ⟨rest[i], List.getElem_mem _, fs[i], by simp, ?_⟩
        have : (List.zipWith (fun w f => (w, f)) rest fs)[i]'(by rw [List.length_zipWith]; omega) = (rest[i], fs[i]) := by simp
        rw [← this]
        exact List.getElem_mem _
      refine lc_mapQ (fun u => match u with | .tup [.str w, .str f] => .bl (fitsF w f) | _ => .non) cr (by rw [List.length_map]; exact l1) (fun i μ2 hi f2 => ?_) fun μ2 f2 c2 => ?_
      · obtain ⟨w, hw, f, e, _⟩ := at_ i hi
        rw [e]
        refine ⟨[some (.str z), some (.str a), some (.ref r), some (.tup (fs.map U.str)), some (.str w), some (.str f)], rfl, ?_⟩
        walk_at "go"
        refine h3.ap (Nat.le_trans (hwl w (by simp [hw])) (by decide)) fun μ3 f3 => ?_
        exact ⟨rfl, f3⟩
      · have e2 : ((List.zipWith (fun w u => U.tup [w, u]) (rest.map U.str) (fs.map U.str)).map fun u => match u with | .tup [.str w, .str f] => U.bl (fitsF w f) | _ => .non) = (List.zipWith (fun w f => (w, f)) rest fs).map fun p => U.bl (fitsF p.1 p.2) := by
          rw [zl, List.map_map]; rfl
        rw [e2] at c2
        rw [w_allL c2 (blsU_map (fun p : Str × Str => fitsF p.1 p.2) _)]
        try walk_at "go"
        refine ⟨_, tru_b, ?_⟩
        have e3 : (List.zipWith fitsF rest fs) = (List.zipWith (fun w f => (w, f)) rest fs).map fun p => fitsF p.1 p.2 := by
          rw [List.map_zipWith]
        rw [e3] at q
        have f02 := f0.trans f2
        cases hall : (((List.zipWith (fun w f => (w, f)) rest fs).map fun p => fitsF p.1 p.2).all id) with
        | false =>
          rw [if_pos (by decide)]
          rw [hall, if_neg (by simp)] at q
          exact q μ2 f02
        | true =>
          rw [if_neg (by decide)]
          rw [hall, if_pos ⟨hlen, rfl⟩] at q
          rw [w_astar, w_lc, w_zipW (us := fs.map U.str) (ws := rest.map U.str) rfl rfl (f2.at_ _ _ cr)]
          have fitAt : ∀ w f, (w, f) ∈ List.zipWith (fun w f => (w, f)) rest fs → fitsF w f = true := fun w f h => by
            rw [List.all_map, List.all_eq_true] at hall
            exact hall (w, f) h
          refine lc_mapQ (fun u => match u with | .tup [.str w, .str f] => convF w f | _ => .non) (f2.at_ _ _ cr) (by rw [List.length_map]; exact l1) (fun i μ3 hi f3 => ?_) fun μ3 f3 c3 => ?_
          · obtain ⟨w, hw, f, e, hm⟩ := at_ i hi
            rw [e]
            have hfit := fitAt w f hm
            refine ⟨[some (.str z), some (.str a), some (.ref r), some (.tup (fs.map U.str)), some (.str w), some (.str f)], rfl, ?_⟩
            walk_at "go"
            by_cases hnum : f = "number"
            · rw [if_pos hnum]
              unfold fitsF at hfit
              rw [if_pos hnum] at hfit
              rw [w_intT hfit]
              refine ⟨?_, .refl⟩
              show _ = convF w f
              unfold convF
              rw [if_pos hnum]
            · rw [if_neg hnum]
              refine ⟨?_, .refl⟩
              show _ = convF w f
              unfold convF
              rw [if_neg hnum]
          · refine ⟨_, seq_L c3, ?_⟩
            rw [w_anil, List.append_nil]
            have e4 : ((List.zipWith (fun w u => U.tup [w, u]) (rest.map U.str) (fs.map U.str)).map fun u => match u with | .tup [.str w, .str f] => convF w f | _ => .non) = List.zipWith convF rest fs := by
              rw [zl, List.map_map, List.map_zipWith]
              rfl
            rw [e4]
            refine ⟨by rw [List.length_zipWith]; exact Nat.le_trans (show _ ≤ 1000001 by omega) (by decide), q μ3 (f02.trans f3)⟩
    · rw [if_pos (by simp; omega)]
      rw [if_neg (fun x => hlen x.1)] at q
      exact q μ1 f0
open TL (tl ext_tl tl_append joinL numL)
def nU (ns : List Nat) : List U := ns.map fun (x : Nat) => U.int (x : Int)
structure RowS (g : List U → Mem → Res U) : Prop where
  ap : ∀ {ns : List Int} {μ : Mem} {Q : U → Mem → Prop} {E : Str → Mem → Prop}, ns.length ≤ 63 → (∀ (xs : List Nat) r μ', (∀ x ∈ xs, x < 1009) → xs.length ≤ 3000 → Fr μ μ' → μ'[r]? = some (.lst (nU xs)) → Q (.ref r) μ') → wpE (g [.frl (ns.map U.int)] μ) Q E
def lrB : FS :=
    (sSeq (sAsg (.one 5) (fOp uMod (fCall bInt (aCons (fOp uAdd (fOp uAdd (fOp uMul (fVar 5) (fC (.int 16807))) (fOp uMul (fC (.int 11)) (fVar 4))) (fC (.int 1))) aNil)) (fC (.int 2147483647))))
    (sExpr (fMtL gAppend (fVar 1) (aCons (fOp uMod (fCall bInt (aCons (fOp uFdiv (fVar 5) (fC (.int 7))) aNil)) (fC (.int 1009))) aNil))))
theorem row_s {C : Calls} : RowS (runDef 6 (b__law_row C)) := by
  constructor
  intro ns μ Q E hn q
  unfold b__law_row
  walk_at "go"
  rw [List.length_map]
  refine ⟨by simp [okR]; omega, ?_⟩
  refine for_rng ns.length (fun i s' μ' => ∃ (xs : List Nat) (x2 x3 x4 x5 : Option U), s' = [some (.frl (ns.map U.int)), some (.ref μ.length), x2, x3, x4, x5] ∧ (∀ x ∈ xs, x < 1009) ∧ xs.length ≤ i * 40 ∧ Fr μ μ' ∧ μ'[μ.length]? = some (.lst (nU xs))) (by simp) (by omega) ⟨[], _, _, _, _, rfl, by simp, by simp, Fr.refl.snoc, get_snoc⟩ ?_ ?_
  · rintro i s' μ1 hi ⟨xs, x2, x3, x4, x5, rfl, b1, l1, f1, c1⟩
    refine ⟨_, rfl, ?_⟩
    walk_at "go"
    refine ⟨.int ns[i], by rw [Dg.atI_nat, List.getElem?_map, List.getElem?_eq_getElem hi]; rfl, ?_⟩
    walk_at "go"
    generalize ((ns[i].natAbs : Nat) : Int) = c0
    by_cases hc : (10 : Int) ^ (18 : Int).toNat ≤ c0
    · rw [if_pos hc]
      refine for_rng 40 (fun j s' μ' => ∃ (ys : List Nat) (c : Int) (x4 : Option U), s' = [some (.frl (ns.map U.int)), some (.ref μ.length), some (.int (i : Nat)), some (.int c), x4, x5] ∧ (∀ x ∈ ys, x < 1009) ∧ ys.length ≤ i * 40 + j ∧ Fr μ μ' ∧ μ'[μ.length]? = some (.lst (nU ys))) (by decide) (by omega) ⟨xs, c0, _, rfl, b1, by omega, f1, c1⟩ ?_ ?_
      · rintro j s' μ2 hj ⟨ys, c, x4, rfl, b2, l2, f2, c2⟩
        refine ⟨_, rfl, ?_⟩
        walk_at "go"
        by_cases h0 : (0 : Int) < c
        · rw [if_pos h0]
          refine ⟨_, lstU_L c2, ?_⟩
          obtain ⟨n, e, lt⟩ := fmod_nat (x := c) (m := 1009) (by decide)
          rw [e, w_append c2 (by unfold nU; rw [List.length_map]; exact Nat.lt_of_le_of_lt (show _ ≤ 3000 by omega) (by decide))]
          refine ⟨ys ++ [n], _, _, rfl, fun x hx => ?_, by simp; omega, f2.put (Nat.le_refl _), ?_⟩
          · rcases List.mem_append.mp hx with h | h
            · exact b2 x h
            · rw [List.mem_singleton.mp h]; omega
          · rw [get_set c2]; unfold nU; rw [List.map_append]; rfl
        · rw [if_neg h0]
          exact ⟨ys, _, _, rfl, b2, by omega, f2, c2⟩
      · rintro s' μ2 ⟨ys, c, x4, rfl, b2, l2, f2, c2⟩
        exact ⟨ys, _, _, _, _, rfl, b2, by omega, f2, c2⟩
    · rw [if_neg hc]
      refine ⟨by simp [big64], by simp [big64], ?_⟩
      obtain ⟨m0, e0, lt0⟩ := fmod_nat (x := c0 * 48271 + (i : Int) * 69621 + 12345) (m := 2147483647) (by decide)
      rw [e0]
      have key : ∀ (B : FS) (D : Dn), (∀ s μ, B s μ = lrB s μ) → (∀ (ys : List Nat) x4 x5 μ', (∀ x ∈ ys, x < 1009) → ys.length ≤ (i + 1) * 40 → Fr μ μ' → μ'[μ.length]? = some (.lst (nU ys)) → D.nx [some (.frl (ns.map U.int)), some (.ref μ.length), some (.int (i : Nat)), some (.int c0), x4, x5] μ') →
          Dg.wpS (sForGo (.one 4) B fuelF (.rng 0 1 6) 0 [some (.frl (ns.map U.int)), some (.ref μ.length), some (.int (i : Nat)), some (.int c0), x4, some (.int (m0 : Nat))] μ1) D := fun B D hB hD => by
        refine for_rng 6 (fun j s' μ' => ∃ (ys : List Nat) (m : Nat) (x4 : Option U), s' = [some (.frl (ns.map U.int)), some (.ref μ.length), some (.int (i : Nat)), some (.int c0), x4, some (.int (m : Nat))] ∧ (∀ x ∈ ys, x < 1009) ∧ ys.length ≤ i * 40 + j ∧ Fr μ μ' ∧ μ'[μ.length]? = some (.lst (nU ys))) rfl (by omega) ⟨xs, m0, _, rfl, b1, by omega, f1, c1⟩ ?_ ?_
        · rintro j s' μ2 hj ⟨ys, m, x4, rfl, b2, l2, f2, c2⟩
          refine ⟨_, rfl, ?_⟩
          rw [hB]
          unfold lrB
          walk_at "go"
          refine ⟨by simp [big64], by simp [big64], ?_⟩
          obtain ⟨m2, e2, lt2⟩ := fmod_nat (x := (m : Int) * 16807 + 11 * (j : Int) + 1) (m := 2147483647) (by decide)
          rw [e2]
          refine ⟨_, lstU_L c2, ?_⟩
          obtain ⟨n, e, lt⟩ := fmod_nat (x := ((m2 : Nat) : Int).fdiv 7) (m := 1009) (by decide)
          rw [e, w_append c2 (by unfold nU; rw [List.length_map]; exact Nat.lt_of_le_of_lt (show _ ≤ 3000 by omega) (by decide))]
          refine ⟨ys ++ [n], m2, _, rfl, fun x hx => ?_, by simp; omega, f2.put (Nat.le_refl _), ?_⟩
          · rcases List.mem_append.mp hx with h | h
            · exact b2 x h
            · rw [List.mem_singleton.mp h]; omega
          · rw [get_set c2]; unfold nU; rw [List.map_append]; rfl
        · rintro s' μ2 ⟨ys, m, x4, rfl, b2, l2, f2, c2⟩
          exact hD ys _ _ μ2 b2 (by omega) f2 c2
      refine key _ _ ?_ ?_
      · exact fun _ _ => rfl
      · exact fun ys x4 x5 μ2 b2 l2 f2 c2 => ⟨ys, _, _, _, _, rfl, b2, l2, f2, c2⟩
  · rintro s' μ1 ⟨xs, x2, x3, x4, x5, rfl, b1, l1, f1, c1⟩
    walk_at "go"
    exact q xs _ _ b1 (by omega) f1 c1
structure AtS (g : List U → Mem → Res U) : Prop where
  ap : ∀ {xs : List Nat} {r k : Nat} {μ : Mem} {Q : U → Mem → Prop} {E : Str → Mem → Prop}, μ[r]? = some (.lst (nU xs)) → (∀ x ∈ xs, x < 1009) → (∀ x : Nat, x < 1009 → Q (.int (x : Nat)) μ) → wpE (g [.ref r, .int (k : Nat)] μ) Q E
theorem at_s {C : Calls} : AtS (runDef 2 (b__law_at C)) := by
  constructor
  intro xs r k μ Q E hr hb q
  unfold b__law_at
  walk_at "go"
  have hk : (0 : Int) ≤ (k : Int) := by omega
  rw [w_lenL hr]
  try walk_at "go"
  have hx : (nU xs).length = xs.length := by unfold nU; simp
  rw [hx]
  rw [if_pos hk]
  by_cases h : k < xs.length
  · rw [if_pos (by omega), w_ixL hr, Dg.atI_nat]
    refine ⟨.int ((xs[k] : Nat) : Int), by unfold nU; rw [List.getElem?_map, List.getElem?_eq_getElem h]; rfl, q _ (hb _ (List.getElem_mem _))⟩
  · rw [if_neg (by omega)]
    exact q 0 (by decide)
/-! names -/
theorem in_strsL {t : Str} {r : Nat} {xs : List Str} {μ : Mem} (h : μ[r]? = some (.lst (xs.map U.str))) : inU (.str t) (.ref r) μ = some (xs.any fun x => decide (x = t)) := by
  rw [← in_strs (μ := μ)]
  have e0 : dctU μ (.ref r) = none := by simp only [dctU, h]
  have e1 : dctU μ (.tup (xs.map U.str)) = none := rfl
  have e3 : seqU μ (.tup (xs.map U.str)) = some (xs.map U.str) := rfl
  unfold inU
  simp only [e0, e1, seq_L h, e3]
structure NmS (g : List U → Mem → Res U) : Prop where
  ap : ∀ {x : Nat} {μ : Mem} {Q : U → Mem → Prop} {E : Str → Mem → Prop}, x < 1009 → (∀ z μ', isNm z = true → Fr μ μ' → Q (.str z) μ') → wpE (g [.int (x : Nat)] μ) Q E
def SIG : Str := "abcdefghijklmnqrtuvwyz"
theorem sig_ok : (tl SIG).length = 22 ∧ ∀ c ∈ tl SIG, isL c = true := by decide +kernel
theorem w_addS' {a b : Str} {μ : Mem} {Q : U → Mem → Prop} {E : Str → Mem → Prop} (ha : a.length ≤ 1000) (hb : b.length ≤ 1000) : wpE (uAdd (.str a) (.str b) μ) Q E = Q (.str (a ++ b)) μ := w_addS (Nat.le_trans (show _ ≤ 2000 by omega) (by decide))
theorem nm_s {C : Calls} : NmS (runDef 4 (b__law_name C)) := by
  constructor
  intro x μ Q E hx q
  unfold b__law_name
  walk_at "go"
  obtain ⟨m, em, lm⟩ := fmod_nat (x := ((x : Nat) : Int)) (m := 4) (by decide)
  rw [em, show (1 : Int) + (m : Int) = ((1 + m : Nat) : Int) by omega]
  refine ⟨by simp [okR]; omega, ?_⟩
  refine for_rng (1 + m) (fun i s' μ' => μ' = μ ∧ ∃ (z : Str) (x3 : Option U), s' = [some (.int (x : Nat)), some (.str SIG), some (.str z), x3] ∧ (tl z).length = i ∧ ∀ c ∈ tl z, isL c = true) (Int.toNat_natCast _) (by omega) ⟨rfl, "", _, rfl, rfl, fun c hc => by rw [show tl ("" : Str) = [] from rfl] at hc; cases hc⟩ ?_ ?_
  · rintro i s' μ1 hi ⟨rfl, z, x3, rfl, lz, az⟩
    refine ⟨_, rfl, ?_⟩
    walk_at "go"
    refine ⟨by simp [big64], by simp [big64]; omega, by simp [big64], ?_⟩
    obtain ⟨j, ej, lj⟩ := fmod_nat (x := (x : Int) * 7 + (i : Int) * (i : Int) * 5 + (i : Int)) (m := 22) (by decide)
    have hj : j < (tl SIG).length := by rw [sig_ok.1]; omega
    rw [ej, w_ixS (by decide +kernel) hj, w_addS' (by rw [TL.len_tl, lz]; omega) (by rw [TL.len_tl]; show 1 ≤ 1000; omega)]
    refine ⟨rfl, _, _, rfl, ?_, fun c hc => ?_⟩
    · rw [tl_append, List.length_append, lz]; rfl
    · rw [tl_append] at hc
      rcases List.mem_append.mp hc with h | h
      · exact az c h
      · rw [List.mem_singleton.mp h]
        exact sig_ok.2 _ (List.getElem_mem _)
  · rintro s' μ1 ⟨rfl, z, x3, rfl, lz, az⟩
    walk_at "go"
    have cl : (μ1 ++ [Cell.lst [U.str "if", U.str "new", U.str "do", U.str "val", U.str "com", U.str "exp", U.str "skip", U.str "stop", U.str "exit", U.str "proc"]])[μ1.length]? = some (.lst ((["if", "new", "do", "val", "com", "exp", "skip", "stop", "exit", "proc"] : List Str).map U.str)) := get_snoc
    rw [w_in]
    refine ⟨_, in_strsL cl, _, rfl, ?_⟩
    cases hb : (["if", "new", "do", "val", "com", "exp", "skip", "stop", "exit", "proc"] : List Str).any fun x => decide (x = z) with
    | true =>
      rw [if_pos rfl]
      exact q "a" _ (by decide +kernel) Fr.refl.snoc
    | false =>
      rw [if_neg (by decide)]
      refine q z _ ?_ Fr.refl.snoc
      unfold isNm
      rw [TL.len_tl, lz, decide_eq_true (by omega), decide_eq_true (by omega), List.all_eq_true.mpr az]
      have hr : (RESV.any fun x => decide (x = z)) = false := by
        rw [List.any_eq_false] at hb ⊢
        intro y hy
        refine hb y ?_
        have : ∀ y ∈ RESV, y ∈ (["if", "new", "do", "val", "com", "exp", "skip", "stop", "exit", "proc"] : List Str) := by decide +kernel
        exact this y hy
      rw [hr]
      rfl
open TL (tl ext_tl tl_append joinL numL)
/-! the lines of the law -/
inductive Pt
  | tx (m : Bool) (n t : Str)
  | nm (w : Str) (ns : List Str)
  | ap (a : Nat) (x : Str) (b : Nat) (y : Str)
def kw (m : Bool) : Str := if m then "module" else "let"
def ptU : Pt → U
  | .tx m n t => .tup [.str (kw m), .str n, .str t]
  | .nm w ns => .tup (.str w :: ns.map U.str)
  | .ap a x b y => .tup [.str "apply", .int (a : Nat), .str x, .int (b : Nat), .str y]
def TXS : List (Str × List Str) := [("|- com : skip", ["|-", "com", ":", "skip"]), ("", [""]), (" ", ["", ""]), ("p : com |- com :  p", ["p", ":", "com", "|-", "com", ":", "", "p"]), ("x  = y", ["x", "", "=", "y"])]
def txW (t : Str) : List Str := (TXS.lookup t).getD []
def num (a : Nat) : Str := mkS (numL a)
def NMW : List Str := ["show", "fill", "run", "same", "differ", "witness", "certify", "twin", "rule", "simplify", "code", "attack"]
def Pt.ok : Pt → Prop
  | .tx _ n t => isNm n = true ∧ t ∈ TXS.map (·.1)
  | .nm w ns => w ∈ NMW ∧ ns.length = ((FTS.lookup w).getD []).length ∧ ∀ n ∈ ns, isNm n = true
  | .ap a x b y => a < 1000 ∧ isNm x = true ∧ b < 1000 ∧ isNm y = true
def hdP : Pt → Str
  | .tx m _ _ => kw m
  | .nm w _ => w
  | .ap _ _ _ _ => "apply"
def tlP : Pt → List Str
  | .tx _ n t => n :: "=" :: txW t
  | .nm _ ns => ns
  | .ap a x b y => [num a, x, num b, y]
def txP (p : Pt) : Str := Txt.join " " (hdP p :: tlP p)
/-- a word: no blank, good signs, short -/
structure Wd (p : Str) : Prop where
  sp : 32 ∉ tl p
  ok : ∀ c ∈ tl p, c < 1114112
  len : (tl p).length ≤ 30
def wdB (p : Str) : Bool := !((tl p).contains 32) && (tl p).all (fun c => decide (c < 1114112)) && decide ((tl p).length ≤ 30)
theorem wd_of {p : Str} (h : wdB p = true) : Wd p := by
  unfold wdB at h
  simp only [Bool.and_eq_true, decide_eq_true_eq] at h
  obtain ⟨⟨h1, h2⟩, h3⟩ := h
  refine ⟨by simpa using h1, fun c hc => ?_, h3⟩
  exact of_decide_eq_true (List.all_eq_true.mp h2 c hc)
theorem wd_nm {p : Str} (h : isNm p = true) : Wd p := by
  unfold isNm at h
  simp only [Bool.and_eq_true, decide_eq_true_eq] at h
  obtain ⟨⟨⟨h1, h2⟩, h3⟩, h4⟩ := h
  have hc : ∀ c ∈ tl p, 97 ≤ c ∧ c ≤ 122 := fun c hc => by
    have := List.all_eq_true.mp h4 c hc
    unfold isL at this
    simpa using this
  refine ⟨fun h => ?_, fun c h => ?_, by rw [← TL.len_tl]; omega⟩
  · have := hc _ h; omega
  · have := hc _ h; omega
theorem num_ok {a : Nat} (h : a < 1000) : (numL a).length ≤ 3 ∧ ∀ c ∈ numL a, 48 ≤ c ∧ c ≤ 57 := ⟨TL.numL_len (k := 3) (by decide) h, TL.numL_digits a⟩
theorem wd_num {a : Nat} (h : a < 1000) : Wd (num a) := by
  obtain ⟨h1, h2⟩ := num_ok h
  refine ⟨fun h => ?_, fun c h => ?_, ?_⟩
  · have := h2 _ h; omega
  · have := h2 _ h; omega
  · show (numL a).length ≤ 30; omega
theorem nb_num {a : Nat} (h : a < 1000) : isNb (num a) = true := by
  obtain ⟨h1, h2⟩ := num_ok h
  unfold isNb
  have e : tl (num a) = numL a := rfl
  have h0 : numL a ≠ [] := TL.numL_ne a
  have hl : (num a).length = (numL a).length := by rw [TL.len_tl, e]
  have hpos : 0 < (numL a).length := List.length_pos_iff.mpr h0
  rw [hl, e, decide_eq_true (by omega), decide_eq_true h1]
  have hd : (numL a).all isD = true := List.all_eq_true.mpr fun c hc => by
    have := h2 c hc
    unfold isD
    simp only [Bool.and_eq_true, decide_eq_true_eq]
    exact this
  rw [hd, Bool.true_and, Bool.true_and, Bool.true_and]
  by_cases hz : a = 0
  · subst hz
    have : num 0 = "0" := ext_tl (by show numL 0 = _; rw [TL.numL_lt (by decide), l_0])
    rw [this]; rfl
  · have : (numL a).head? ≠ some 48 := by
      have key : ∀ n a : Nat, a < n → a ≠ 0 → (numL a).head? ≠ some 48 := by
        intro n
        induction n with
        | zero => intro a ha; omega
        | succ n ih =>
          intro a ha h0
          by_cases h10 : a < 10
          · rw [TL.numL_lt h10]
            intro e
            have := Option.some.inj e
            omega
          · rw [TL.numL_step (by omega), List.head?_append]
            have h1 := ih (a / 10) (by omega) (by omega)
            cases hh : (numL (a / 10)).head? with
            | none =>
              have := List.head?_eq_none_iff.mp hh
              exact absurd this (TL.numL_ne _)
            | some c => rw [hh] at h1; exact h1
      exact key (a + 1) a (by omega) hz
    rw [decide_eq_true this, Bool.or_true]
theorem tx_facts : ∀ p ∈ TXS, Txt.join " " p.2 = p.1 ∧ p.2 ≠ [] ∧ p.2.length ≤ 10 ∧ p.1.length ≤ 30 ∧ (p.2.all fun w => wdB w && decide ((tl w).length ≤ 10)) = true ∧ TXS.lookup p.1 = some p.2 := by decide +kernel
theorem txW_facts {t : Str} (h : t ∈ TXS.map (·.1)) : Txt.join " " (txW t) = t ∧ txW t ≠ [] ∧ (txW t).length ≤ 10 ∧ t.length ≤ 30 ∧ ∀ w ∈ txW t, Wd w ∧ (tl w).length ≤ 10 := by
  obtain ⟨p, hp, rfl⟩ := List.mem_map.mp h
  obtain ⟨a, b, c, d, e, f⟩ := tx_facts p hp
  have : txW p.1 = p.2 := by unfold txW; rw [f]; rfl
  rw [this]
  exact ⟨a, b, c, d, fun w hw => by
    have := List.all_eq_true.mp e w hw
    rw [Bool.and_eq_true, decide_eq_true_eq] at this
    exact ⟨wd_of this.1, this.2⟩⟩
def WDS : List Str := ("let" : Str) :: "module" :: "apply" :: NMW
theorem hd_mem {p : Pt} (o : p.ok) : hdP p ∈ WDS := by
  cases p with
  | tx m n t => cases m <;> (show kw _ ∈ WDS; decide +kernel)
  | nm w ns => exact List.mem_cons_of_mem _ (List.mem_cons_of_mem _ (List.mem_cons_of_mem _ o.1))
  | ap a x b y => show ("apply" : Str) ∈ WDS; decide +kernel
theorem wds_wd : ∀ w ∈ WDS, wdB w = true := by decide +kernel
theorem fts_len : ∀ p ∈ FTS, p.2.length ≤ 5 ∧ p.2 ≠ [] := by decide +kernel
theorem nmw_facts : ∀ w ∈ NMW, ∃ fs, FTS.lookup w = some fs ∧ w ∉ LM ∧ fs ≠ [] ∧ fs.length ≤ 5 ∧ (fs.all fun f => decide (f ≠ "number")) = true ∧ w ≠ "apply" := by
  have : ∀ w ∈ NMW, w ∉ LM ∧ ((FTS.lookup w).getD []) ≠ [] ∧ ((FTS.lookup w).getD []).length ≤ 5 ∧ (((FTS.lookup w).getD []).all fun f => decide (f ≠ "number")) = true ∧ w ≠ "apply" ∧ (FTS.lookup w).isSome = true := by decide +kernel
  intro w hw
  obtain ⟨a, b, c, d, e, f⟩ := this w hw
  cases h : FTS.lookup w with
  | none => rw [h] at f; cases f
  | some fs =>
    rw [h] at b c d
    exact ⟨fs, rfl, a, b, c, d, e⟩
theorem tl_wd {p : Pt} (o : p.ok) : (∀ w ∈ tlP p, Wd w) ∧ tlP p ≠ [] ∧ (tlP p).length ≤ 12 := by
  cases p with
  | tx m n t =>
    obtain ⟨o1, o2⟩ := o
    obtain ⟨a, b, c, d, e⟩ := txW_facts o2
    refine ⟨fun w hw => ?_, by simp [tlP], by simp [tlP]; omega⟩
    rcases List.mem_cons.mp hw with rfl | hw
    · exact wd_nm o1
    · rcases List.mem_cons.mp hw with rfl | hw
      · exact wd_of (by decide +kernel)
      · exact (e w hw).1
  | nm w ns =>
    obtain ⟨o1, o2, o3⟩ := o
    obtain ⟨fs, h1, _, h3, h4, _⟩ := nmw_facts w o1
    rw [h1] at o2
    refine ⟨fun w hw => wd_nm (o3 w hw), fun e => ?_, by show ns.length ≤ 12; simp at o2; omega⟩
    have : ns = [] := e
    rw [this] at o2
    exact h3 (List.length_eq_zero_iff.mp o2.symm)
  | ap a x b y =>
    obtain ⟨o1, o2, o3, o4⟩ := o
    refine ⟨fun w hw => ?_, by simp [tlP], by simp [tlP]⟩
    simp only [tlP, List.mem_cons, List.not_mem_nil, or_false] at hw
    rcases hw with rfl | rfl | rfl | rfl
    · exact wd_num o1
    · exact wd_nm o2
    · exact wd_num o3
    · exact wd_nm o4
/-- words make a line -/
theorem join_w {ws : List Str} (h : ∀ w ∈ ws, Wd w) (hne : ws ≠ []) (hl : ws.length ≤ 100) : WOk (Txt.join " " ws) ws := by
  refine ⟨hne, fun w hw => (h w hw).sp, fun w hw => (h w hw).ok, rfl, ?_⟩
  rw [TL.len_tl, tl_joinS]
  have := join_len (S := [32]) (k := 30) (ps := ws.map tl) fun p hp => by
    obtain ⟨x, hx, rfl⟩ := List.mem_map.mp hp
    exact (h x hx).len
  rw [List.length_map] at this
  simp only [List.length_cons, List.length_nil] at this
  omega
theorem line_w {p : Pt} (o : p.ok) : WOk (txP p) (hdP p :: tlP p) := by
  obtain ⟨a, b, c⟩ := tl_wd o
  refine join_w (fun w hw => ?_) (by simp) (by simp; omega)
  rcases List.mem_cons.mp hw with rfl | hw
  · exact wd_of (wds_wd _ (hd_mem o))
  · exact a w hw
/-- a good line is read as what it was -/
theorem good_line {p : Pt} (o : p.ok) : resW (hdP p :: tlP p) = ptU p := by
  obtain ⟨wa, wb, wc⟩ := tl_wd o
  have hne : hdP p :: tlP p ≠ [("" : Str)] := fun e => wb (List.cons.inj e).2
  unfold resW
  rw [if_neg hne]
  cases p with
  | tx m n t =>
    obtain ⟨o1, o2⟩ := o
    obtain ⟨a, b, c, d, e⟩ := txW_facts o2
    show optU (if kw m ∈ LM then withT (kw m) (n :: "=" :: txW t) else _) = _
    rw [if_pos (by cases m <;> decide +kernel)]
    cases h : txW t with
    | nil => exact absurd h b
    | cons d r =>
      show optU (if isNm n = true ∧ ("=" : Str) = "=" then some [.str (kw m), .str n, .str (Txt.join " " (d :: r))] else none) = _
      rw [if_pos ⟨o1, rfl⟩, ← h, a]
      rfl
  | nm w ns =>
    obtain ⟨o1, o2, o3⟩ := o
    obtain ⟨fs, h1, h2, h3, h4, h5, _⟩ := nmw_facts w o1
    rw [h1] at o2
    have o2' : ns.length = fs.length := o2
    show optU (if w ∈ LM then _ else formF w ns (FTS.lookup w)) = _
    rw [if_neg h2, h1]
    show optU (if ns.length = fs.length ∧ (List.zipWith fitsF ns fs).all id = true then some (.str w :: List.zipWith convF ns fs) else none) = _
    have key : ∀ (ns fs : List Str), ns.length = fs.length → (∀ n ∈ ns, isNm n = true) → (fs.all fun f => decide (f ≠ "number")) = true → (List.zipWith fitsF ns fs).all id = true ∧ List.zipWith convF ns fs = ns.map U.str := by
      intro ns
      induction ns with
      | nil => intro fs _ _ _; exact ⟨rfl, rfl⟩
      | cons n ns ih =>
        intro fs hl hn hf
        cases fs with
        | nil => cases hl
        | cons f fs =>
          rw [List.all_cons, Bool.and_eq_true] at hf
          obtain ⟨i1, i2⟩ := ih fs (Nat.succ.inj hl) (fun n hn' => hn n (by simp [hn'])) hf.2
          have hnum : ¬ f = "number" := of_decide_eq_true hf.1
          have e1 : fitsF n f = true := by unfold fitsF; rw [if_neg hnum]; exact hn n (by simp)
          have e2 : convF n f = .str n := by unfold convF; rw [if_neg hnum]
          refine ⟨?_, ?_⟩
          · rw [List.zipWith_cons_cons, List.all_cons, e1, i1]; rfl
          · rw [List.zipWith_cons_cons, e2, i2]; rfl
    obtain ⟨k1, k2⟩ := key ns fs o2' o3 h5
    rw [if_pos ⟨o2', k1⟩, k2]
    rfl
  | ap a x b y =>
    obtain ⟨o1, o2, o3, o4⟩ := o
    have e1 : FTS.lookup ("apply" : Str) = some (["number", "piece", "number", "made"] : List Str) := by decide +kernel
    show optU (if ("apply" : Str) ∈ LM then withT "apply" [num a, x, num b, y] else formF "apply" [num a, x, num b, y] (FTS.lookup ("apply" : Str))) = _
    rw [if_neg (by decide +kernel), e1]
    show optU (if 4 = 4 ∧ (List.zipWith fitsF [num a, x, num b, y] (["number", "piece", "number", "made"] : List Str)).all id = true then some (.str "apply" :: List.zipWith convF [num a, x, num b, y] ["number", "piece", "number", "made"]) else none) = _
    have f1 : ∀ z, fitsF z "number" = isNb z := fun z => by unfold fitsF; rw [if_pos rfl]
    have f2 : ∀ z, fitsF z "piece" = isNm z := fun z => by unfold fitsF; rw [if_neg (by decide +kernel)]
    have f3 : ∀ z, fitsF z "made" = isNm z := fun z => by unfold fitsF; rw [if_neg (by decide +kernel)]
    have c1 : ∀ n, convF (num n) "number" = .int (n : Nat) := fun n => by
      unfold convF
      rw [if_pos rfl, show tl (num n) = numL n from rfl, TL.numL_val]
    have c2 : ∀ z, convF z "piece" = .str z := fun z => by unfold convF; rw [if_neg (by decide +kernel)]
    have c3 : ∀ z, convF z "made" = .str z := fun z => by unfold convF; rw [if_neg (by decide +kernel)]
    simp only [List.zipWith_cons_cons, List.zipWith_nil_left, f1, f2, f3, c1, c2, c3, nb_num o1, nb_num o3, o2, o4]
    rfl
open TL (tl ext_tl tl_append joinL numL)
def Bad (b : Str) : Prop := ∃ ws, WOk b ws ∧ resW ws = .non
theorem bad_of {b : Str} {ws : List Str} (e : b = Txt.join " " ws) (h : ∀ w ∈ ws, Wd w) (hne : ws ≠ []) (hl : ws.length ≤ 100) (hr : resW ws = .non) : Bad b := ⟨ws, e ▸ join_w h hne hl, hr⟩
theorem res_form {a : Str} {r : List Str} (h : a ∉ LM) (hn : formF a r (FTS.lookup a) = none) (hne : a :: r ≠ [("" : Str)]) : resW (a :: r) = .non := by
  unfold resW
  rw [if_neg hne]
  show optU (if a ∈ LM then _ else _) = _
  rw [if_neg h, hn]
  rfl
theorem res_with {a : Str} {r : List Str} (h : a ∈ LM) (hn : withT a r = none) : resW (a :: r) = .non := by
  have hne : a :: r ≠ [("" : Str)] := fun e => by
    rw [(List.cons.inj e).1] at h
    exact absurd h (by decide +kernel)
  unfold resW
  rw [if_neg hne]
  show optU (if a ∈ LM then _ else _) = _
  rw [if_pos h, hn]
  rfl
theorem withT_bad {a b : Str} {r : List Str} (h : isNm b = false) : withT a (b :: r) = none := by
  cases r with
  | nil => rfl
  | cons c r =>
    cases r with
    | nil => rfl
    | cons d r =>
      show (if isNm b = true ∧ _ then _ else _) = _
      rw [if_neg (by rw [h]; simp)]
theorem form_len {a : Str} {r fs : List Str} (h : FTS.lookup a = some fs) (hl : r.length ≠ fs.length) : formF a r (FTS.lookup a) = none := by
  rw [h]
  show (if _ ∧ _ then _ else _) = _
  rw [if_neg (fun q => hl q.1)]
theorem em_facts : ("" : Str) ∉ LM ∧ FTS.lookup ("" : Str) = none ∧ isNm "" = false ∧ wdB "" = true := by decide +kernel
theorem up_facts : ∀ w ∈ WDS, wdB (Txt.upper w) = true ∧ Txt.upper w ∉ LM ∧ FTS.lookup (Txt.upper w) = none ∧ w.length ≤ 10 ∧ wdB (w ++ "s") = true ∧ w ++ ("s" : Str) ∉ LM ∧ FTS.lookup (w ++ ("s" : Str)) = none ∧ Txt.upper w ≠ "" ∧ w ++ ("s" : Str) ≠ "" := by decide +kernel
theorem ap_facts : ("apply" : Str) ∉ LM ∧ FTS.lookup ("apply" : Str) = some (["number", "piece", "number", "made"] : List Str) := by decide +kernel
theorem form_none {a : Str} {r : List Str} (h : FTS.lookup a = none) : formF a r (FTS.lookup a) = none := by rw [h]; rfl
/-- the word and its fields -/
theorem hd_cases {p : Pt} (o : p.ok) : (hdP p ∈ LM ∧ ∃ m n t, p = .tx m n t) ∨ (hdP p ∉ LM ∧ ∃ fs, FTS.lookup (hdP p) = some fs ∧ (tlP p).length = fs.length ∧ fs ≠ []) := by
  cases p with
  | tx m n t => exact .inl ⟨by cases m <;> (show kw _ ∈ LM; decide +kernel), m, n, t, rfl⟩
  | nm w ns =>
    obtain ⟨o1, o2, o3⟩ := o
    obtain ⟨fs, h1, h2, h3, h4, h5, _⟩ := nmw_facts w o1
    rw [h1] at o2
    exact .inr ⟨h2, fs, h1, o2, h3⟩
  | ap a x b y => exact .inr ⟨ap_facts.1, _, ap_facts.2, rfl, by simp⟩
theorem b_len {p : Pt} (o : p.ok) {r : List Str} (hl : r.length ≠ (tlP p).length) (hn : hdP p ∉ LM) : resW (hdP p :: r) = .non := by
  rcases hd_cases o with ⟨h, _⟩ | ⟨h, fs, h1, h2, h3⟩
  · exact absurd h hn
  · refine res_form h (form_len h1 (by omega)) (fun e => ?_)
    have e1 := (List.cons.inj e).1
    rw [e1, em_facts.2.1] at h1
    cases h1
theorem joinL_snoc {S x : List Nat} : ∀ {A : List (List Nat)}, A ≠ [] → joinL S (A ++ [x]) = joinL S A ++ (S ++ x)
  | [], h => absurd rfl h
  | [a], _ => rfl
  | a :: b :: r, _ => by
    have ih := joinL_snoc (S := S) (x := x) (A := b :: r) (by simp)
    show a ++ (S ++ joinL S ((b :: r) ++ [x])) = a ++ (S ++ joinL S (b :: r)) ++ (S ++ x)
    rw [ih]
    simp only [List.append_assoc]
def restL (ws : List Str) : List Nat := if ws = [] then [] else 32 :: joinL [32] (ws.map tl)
theorem join_cons {a : Str} {ws : List Str} : tl (Txt.join " " (a :: ws)) = tl a ++ restL ws := by
  rw [tl_joinS, List.map_cons]
  unfold restL
  cases ws with
  | nil => rw [if_pos rfl, List.append_nil]; rfl
  | cons b r => rw [if_neg (by simp)]; rfl
theorem rest_cons {a : Str} {ws : List Str} : restL (a :: ws) = 32 :: (tl a ++ restL ws) := by
  unfold restL
  rw [if_neg (by simp)]
  cases ws with
  | nil => rw [if_pos rfl, List.append_nil]; rfl
  | cons b r => rw [if_neg (by simp)]; rfl
theorem tl_tx (p : Pt) : tl (txP p) = tl (hdP p) ++ restL (tlP p) := join_cons
theorem tl_cut {z : Str} {k : Nat} : tl (L2.cutS z (some (k : Int)) none) = (tl z).drop k := by
  have e : tl (L2.cutS z (some (k : Int)) none) = cutU (tl z) (some (k : Int)) none := by
    unfold L2.cutS cutU
    rw [TL.len_tl]
  rw [e, cutU_drop (by omega), Int.toNat_natCast]
theorem is_join {b : Str} {a : Str} {ws : List Str} (e : tl b = tl a ++ restL ws) : b = Txt.join " " (a :: ws) := ext_tl (by rw [e, join_cons])
theorem wd_all {a : Str} {ws : List Str} (h : Wd a) (hs : ∀ w ∈ ws, Wd w) : ∀ w ∈ a :: ws, Wd w := fun w hw => by
  rcases List.mem_cons.mp hw with rfl | hw
  · exact h
  · exact hs w hw
theorem wd_em : Wd "" := wd_of em_facts.2.2.2
/-- the five that each line gets -/
theorem bads5 {p : Pt} (o : p.ok) {ct : Str} (hc : tl ct = restL (tlP p)) : ∀ b ∈ ([(" " : Str) ++ txP p, Txt.upper (hdP p) ++ ct, hdP p ++ ("s" : Str) ++ ct, hdP p, hdP p ++ (" " : Str) ++ ct] : List Str), Bad b := by
  obtain ⟨wa, wb, wc⟩ := tl_wd o
  obtain ⟨u1, u2, u3, u4, u5, u6, u7, u8, u9⟩ := up_facts _ (hd_mem o)
  have wh : Wd (hdP p) := wd_of (wds_wd _ (hd_mem o))
  intro b hb
  simp only [List.mem_cons, List.not_mem_nil, or_false] at hb
  rcases hb with rfl | rfl | rfl | rfl | rfl
  · refine bad_of (ws := "" :: hdP p :: tlP p) (is_join ?_) (wd_all wd_em (wd_all wh wa)) (by simp) (by simp; omega) (res_form em_facts.1 (form_none em_facts.2.1) (by simp))
    rw [tl_append, tl_tx, rest_cons, t_sp]
    rfl
  · refine bad_of (ws := Txt.upper (hdP p) :: tlP p) (is_join ?_) (wd_all (wd_of u1) wa) (by simp) (by simp; omega) (res_form u2 (form_none u3) (fun e => wb (List.cons.inj e).2))
    rw [tl_append, hc]
  · refine bad_of (ws := (hdP p ++ ("s" : Str)) :: tlP p) (is_join ?_) (wd_all (wd_of u5) wa) (by simp) (by simp; omega) (res_form u6 (form_none u7) (fun e => wb (List.cons.inj e).2))
    rw [tl_append, hc]
  · refine bad_of (ws := [hdP p]) (is_join ?_) (wd_all wh (by simp)) (by simp) (by simp) ?_
    · rw [show restL ([] : List Str) = [] from rfl, List.append_nil]
    · rcases hd_cases o with ⟨h, _⟩ | ⟨h, fs, h1, h2, h3⟩
      · exact res_with h rfl
      · exact b_len o (r := []) (fun e => wb (List.length_eq_zero_iff.mp e.symm)) h
  · refine bad_of (ws := hdP p :: "" :: tlP p) (is_join ?_) (wd_all wh (wd_all wd_em wa)) (by simp) (by simp; omega) ?_
    · rw [tl_append, tl_append, hc, rest_cons, t_sp]
      show _ = tl (hdP p) ++ 32 :: ([] ++ restL (tlP p))
      simp
    · rcases hd_cases o with ⟨h, _⟩ | ⟨h, fs, h1, h2, h3⟩
      · exact res_with h (withT_bad em_facts.2.2.1)
      · exact b_len o (by simp) h
def BN1 : List Str := ["abcde", "Ab", "a1", "", "skip", "exp"]
def BN2 : List Str := ["abcde", "A", "1", "", "if", "val"]
def BNB : List Str := ["1000", "01", "-1", "", "x", "+1"]
theorem bn1_facts : ∀ w ∈ BN1, isNm w = false ∧ wdB w = true ∧ w.length ≤ 10 := by decide +kernel
theorem bn2_facts : ∀ w ∈ BN2, isNm w = false ∧ wdB w = true ∧ w.length ≤ 10 := by decide +kernel
theorem bnb_facts : ∀ w ∈ BNB, isNb w = false ∧ wdB w = true ∧ w.length ≤ 10 := by decide +kernel
theorem kw_lm (m : Bool) : kw m ∈ LM := by cases m <;> decide +kernel
theorem t_eq : tl ("=" : Str) = [61] := by decide +kernel
theorem t_sq : tl (" =" : Str) = [32, 61] := by decide +kernel
theorem bads_tx {m : Bool} {n t : Str} (o : (Pt.tx m n t).ok) : ∀ b ∈ ([kw m ++ (" " : Str) ++ n ++ (" =" : Str), kw m ++ (" " : Str) ++ n ++ ("=" : Str) ++ t, kw m ++ (" " : Str) ++ n ++ (" " : Str) ++ n] : List Str), Bad b := by
  obtain ⟨o1, o2⟩ := o
  obtain ⟨a, b, c, d, e⟩ := txW_facts o2
  have wk : Wd (kw m) := wd_of (wds_wd _ (hd_mem (p := .tx m n t) ⟨o1, o2⟩))
  have wn := wd_nm o1
  have we : Wd "=" := wd_of (by decide +kernel)
  intro z hz
  simp only [List.mem_cons, List.not_mem_nil, or_false] at hz
  rcases hz with rfl | rfl | rfl
  · refine bad_of (ws := [kw m, n, "="]) (is_join ?_) (wd_all wk (wd_all wn (wd_all we (by simp)))) (by simp) (by simp) (res_with (kw_lm m) rfl)
    rw [tl_append, tl_append, tl_append, rest_cons, rest_cons, t_sp, t_sq, t_eq, show restL ([] : List Str) = [] from rfl]
    simp only [List.append_assoc, List.cons_append, List.nil_append, List.append_nil]
  · cases h : txW t with
    | nil => exact absurd h b
    | cons t0 ts =>
      have w0 := e t0 (by rw [h]; simp)
      have wts : ∀ w ∈ ts, Wd w := fun w hw => (e w (by rw [h]; simp [hw])).1
      have nl : (tl n).length ≤ 4 := by
        have : n.length ≤ 4 := by
          unfold isNm at o1
          simp only [Bool.and_eq_true, decide_eq_true_eq] at o1
          exact o1.1.1.2
        rw [← TL.len_tl]; exact this
      have wx : Wd (n ++ ("=" : Str) ++ t0) := by
        refine ⟨fun hm => ?_, fun c hc => ?_, ?_⟩
        · rw [tl_append, tl_append, t_eq] at hm
          rcases List.mem_append.mp hm with hm | hm
          · rcases List.mem_append.mp hm with hm | hm
            · exact wn.sp hm
            · simp at hm
          · exact w0.1.sp hm
        · rw [tl_append, tl_append, t_eq] at hc
          rcases List.mem_append.mp hc with hc | hc
          · rcases List.mem_append.mp hc with hc | hc
            · exact wn.ok c hc
            · rw [List.mem_singleton.mp hc]; decide
          · exact w0.1.ok c hc
        · rw [tl_append, tl_append, t_eq]
          have := w0.2
          simp only [List.length_append, List.length_cons, List.length_nil]
          omega
      have nb : isNm (n ++ ("=" : Str) ++ t0) = false := by
        unfold isNm
        have : (tl (n ++ ("=" : Str) ++ t0)).all isL = false := by
          rw [tl_append, tl_append, t_eq, List.all_append, List.all_append]
          rw [show [61].all isL = false from by decide]
          simp
        rw [this, Bool.and_false]
      refine bad_of (ws := kw m :: (n ++ ("=" : Str) ++ t0) :: ts) (is_join ?_) (wd_all wk (wd_all wx wts)) (by simp) (by rw [h] at c; simp at c ⊢; omega) (res_with (kw_lm m) (withT_bad nb))
      have et : tl t = tl t0 ++ restL ts := by
        rw [← a, h, join_cons]
      rw [tl_append, tl_append, tl_append, tl_append, rest_cons, tl_append, tl_append, et, t_sp, t_eq]
      simp only [List.append_assoc, List.cons_append, List.nil_append, List.append_nil]
  · refine bad_of (ws := [kw m, n, n]) (is_join ?_) (wd_all wk (wd_all wn (wd_all wn (by simp)))) (by simp) (by simp) (res_with (kw_lm m) rfl)
    rw [tl_append, tl_append, tl_append, tl_append, rest_cons, rest_cons, t_sp, show restL ([] : List Str) = [] from rfl]
    simp only [List.append_assoc, List.cons_append, List.nil_append, List.append_nil]
theorem bads_txn {m : Bool} {n t rs : Str} (o : (Pt.tx m n t).ok) (hr : tl rs = restL ("=" :: txW t)) : ∀ x ∈ BN1, Bad (kw m ++ (" " : Str) ++ x ++ rs) := by
  intro x hx
  obtain ⟨f1, f2, f3⟩ := bn1_facts x hx
  have wk : Wd (kw m) := wd_of (wds_wd _ (hd_mem o))
  obtain ⟨wa, wb, wc⟩ := tl_wd o
  have wt : ∀ w ∈ ("=" : Str) :: txW t, Wd w := fun w hw => wa w (List.mem_cons_of_mem _ hw)
  refine bad_of (ws := kw m :: x :: "=" :: txW t) (is_join ?_) (wd_all wk (wd_all (wd_of f2) wt)) (by simp) (by simp [tlP] at wc ⊢; omega) (res_with (kw_lm m) (withT_bad f1))
  rw [tl_append, tl_append, tl_append, hr, rest_cons (a := x), t_sp]
  simp only [List.append_assoc, List.cons_append, List.nil_append, List.append_nil]
/-- something behind the line -/
theorem bads3 {p : Pt} (o : p.ok) (hn : hdP p ∉ LM) : ∀ b ∈ ([txP p ++ (" " : Str), txP p ++ (" a" : Str), txP p ++ (" 1" : Str)] : List Str), Bad b := by
  obtain ⟨wa, wb, wc⟩ := tl_wd o
  have wh : Wd (hdP p) := wd_of (wds_wd _ (hd_mem o))
  have key : ∀ (x s : Str), wdB x = true → tl s = 32 :: tl x → Bad (txP p ++ s) := fun x s hx hs => by
    refine bad_of (ws := hdP p :: (tlP p ++ [x])) (ext_tl ?_) (wd_all wh fun w hw => ?_) (by simp) (by simp; omega) (b_len o (by simp) hn)
    · rw [tl_append, hs, tl_joinS]
      unfold txP
      rw [tl_joinS, List.map_cons, List.map_cons, List.map_append, List.map_cons, List.map_nil, ← List.cons_append, joinL_snoc (by simp)]
      rfl
    · rcases List.mem_append.mp hw with hw | hw
      · exact wa w hw
      · rw [List.mem_singleton.mp hw]; exact wd_of hx
  intro b hb
  simp only [List.mem_cons, List.not_mem_nil, or_false] at hb
  rcases hb with rfl | rfl | rfl
  · exact key "" _ em_facts.2.2.2 (by rw [t_sp]; rfl)
  · exact key "a" _ (by decide +kernel) (by decide +kernel)
  · exact key "1" _ (by decide +kernel) (by decide +kernel)
theorem bads_nm {w n : Str} {ns : List Str} {rs : Str} (o : (Pt.nm w (n :: ns)).ok) (hr : tl rs = restL ns) : ∀ x ∈ BN2, Bad (w ++ (" " : Str) ++ x ++ rs) := by
  intro x hx
  obtain ⟨f1, f2, f3⟩ := bn2_facts x hx
  have wk : Wd w := wd_of (wds_wd _ (hd_mem o))
  obtain ⟨wa, wb, wc⟩ := tl_wd o
  have wt : ∀ w ∈ ns, Wd w := fun w hw => wa w (List.mem_cons_of_mem _ hw)
  obtain ⟨o1, o2, o3⟩ := o
  obtain ⟨fs, h1, h2, h3, h4, h5, _⟩ := nmw_facts w o1
  refine bad_of (ws := w :: x :: ns) (is_join ?_) (wd_all wk (wd_all (wd_of f2) wt)) (by simp) (by simp [tlP] at wc ⊢; omega) (res_form h2 ?_ (by simp))
  · rw [tl_append, tl_append, tl_append, hr, rest_cons, t_sp]
    simp only [List.append_assoc, List.cons_append, List.nil_append, List.append_nil]
  · rw [h1]
    show (if _ ∧ _ then _ else _) = _
    rw [if_neg]
    rintro ⟨q1, q2⟩
    cases fs with
    | nil => exact h3 rfl
    | cons f fs =>
      rw [List.all_cons, Bool.and_eq_true] at h5
      rw [List.zipWith_cons_cons, List.all_cons, Bool.and_eq_true] at q2
      have : fitsF x f = true := q2.1
      unfold fitsF at this
      rw [if_neg (of_decide_eq_true h5.1), f1] at this
      cases this
theorem bads_ap {a b : Nat} {x y : Str} (o : (Pt.ap a x b y).ok) : ∀ z ∈ BNB, Bad (("apply" : Str) ++ (" " : Str) ++ z ++ (" " : Str) ++ x ++ (" " : Str) ++ num b ++ (" " : Str) ++ y) ∧ Bad (("apply" : Str) ++ (" 1 " : Str) ++ x ++ (" " : Str) ++ z ++ (" " : Str) ++ y) := by
  intro z hz
  obtain ⟨f1, f2, f3⟩ := bnb_facts z hz
  obtain ⟨o1, o2, o3, o4⟩ := o
  have wk : Wd "apply" := wd_of (by decide +kernel)
  have wx := wd_nm o2
  have wy := wd_nm o4
  have hnum : ∀ (u v : Str) (rest : List Str) (r2 : List Str), fitsF z "number" = false := fun _ _ _ _ => by unfold fitsF; rw [if_pos rfl]; exact f1
  have fz : fitsF z "number" = false := by unfold fitsF; rw [if_pos rfl]; exact f1
  refine ⟨?_, ?_⟩
  · refine bad_of (ws := ["apply", z, x, num b, y]) (is_join ?_) (wd_all wk (wd_all (wd_of f2) (wd_all wx (wd_all (wd_num o3) (wd_all wy (by simp)))))) (by simp) (by simp) (res_form ap_facts.1 ?_ (by simp))
    · simp only [tl_append, rest_cons, t_sp, show restL ([] : List Str) = [] from rfl]
      simp only [List.append_assoc, List.cons_append, List.nil_append, List.append_nil]
    · rw [ap_facts.2]
      show (if _ ∧ _ then _ else _) = _
      rw [if_neg]
      rintro ⟨_, q2⟩
      rw [List.zipWith_cons_cons, List.all_cons, fz] at q2
      cases q2
  · refine bad_of (ws := ["apply", "1", x, z, y]) (is_join ?_) (wd_all wk (wd_all (wd_of (by decide +kernel)) (wd_all wx (wd_all (wd_of f2) (wd_all wy (by simp)))))) (by simp) (by simp) (res_form ap_facts.1 ?_ (by simp))
    · have e1 : tl (" 1 " : Str) = [32, 49, 32] := by decide +kernel
      have e2 : tl ("1" : Str) = [49] := by decide +kernel
      simp only [tl_append, rest_cons, t_sp, e1, e2, show restL ([] : List Str) = [] from rfl]
      simp only [List.append_assoc, List.cons_append, List.nil_append, List.append_nil]
    · rw [ap_facts.2]
      show (if _ ∧ _ then _ else _) = _
      rw [if_neg]
      rintro ⟨_, q2⟩
      rw [List.zipWith_cons_cons, List.zipWith_cons_cons, List.zipWith_cons_cons, List.all_cons, List.all_cons, List.all_cons, fz] at q2
      simp at q2
open TL (tl ext_tl tl_append joinL numL)
theorem add_new {r : Nat} {A B : List U} {μ0 μ : Mem} {Q : U → Mem → Prop} {E : Str → Mem → Prop} (h : μ[r]? = some (.lst A)) (f : Fr μ0 μ) (hl : A.length + B.length ≤ 1000) (q : ∀ r' μ', Fr μ0 μ' → μ'[r']? = some (.lst (A ++ B)) → Q (.ref r') μ') : wpE (uAdd (.ref r) (.ref μ.length) (μ ++ [.lst B])) Q E := by
  rw [w_addL' (get_snoc_lt h) get_snoc (Nat.le_trans hl (by decide))]
  exact q _ _ f.snoc.snoc get_snoc
structure LinesS (g : List U → Mem → Res U) : Prop where
  ap : ∀ {xs : List Nat} {r : Nat} {μ : Mem} {Q : U → Mem → Prop} {E : Str → Mem → Prop}, μ[r]? = some (.lst (nU xs)) → (∀ x ∈ xs, x < 1009) → (∀ (ps : List Pt) r' μ', (∀ p ∈ ps, p.ok) → ps.length ≤ 20 → Fr μ μ' → μ'[r']? = some (.lst (ps.map ptU)) → Q (.ref r') μ') → wpE (g [.ref r] μ) Q E
theorem ok_nm {w : Str} {ns : List Str} (hw : w ∈ NMW) (hl : ns.length = ((FTS.lookup w).getD []).length) (hn : ∀ n ∈ ns, isNm n = true) : (Pt.nm w ns).ok := ⟨hw, hl, hn⟩
theorem lines_s {C : Calls} (h7 : AtS (C 7)) (h8 : NmS (C 8)) : LinesS (runDef 8 (b__law_lines C)) := by
  constructor
  intro xs r μ Q E hr hb q
  unfold b__law_lines
  walk_at "go"
  refine h7.ap (k := 1) hr hb fun x1 hx1 => ?_
  refine h8.ap hx1 fun one μ1 n1 f1 => ?_
  refine h7.ap (k := 2) (f1.at_ _ _ hr) hb fun x2 hx2 => ?_
  refine h8.ap hx2 fun two μ2 n2 f2 => ?_
  have f12 := f1.trans f2
  refine h7.ap (k := 3) (f12.at_ _ _ hr) hb fun x3 hx3 => ?_
  refine h8.ap hx3 fun three μ3 n3 f3 => ?_
  have f13 := f12.trans f3
  refine h7.ap (k := 4) (f13.at_ _ _ hr) hb fun x4 hx4 => ?_
  walk_at "go"
  obtain ⟨small, es, ls⟩ := fmod_nat (x := ((x4 : Nat) : Int)) (m := 1000) (by decide)
  rw [es]
  have f14 : Fr μ (μ3 ++ [Cell.lst [U.int 0, U.int 7, U.int 30, U.int 999]]) := f13.snoc
  have c4 : (μ3 ++ [Cell.lst [U.int 0, U.int 7, U.int 30, U.int 999]])[μ3.length]? = some (.lst (([0, 7, 30, 999] : List Nat).map fun (x : Nat) => U.int (x : Int))) := get_snoc
  generalize (μ3 ++ [Cell.lst [U.int 0, U.int 7, U.int 30, U.int 999]]) = μ4 at *
  refine h7.ap (k := 5) (f14.at_ _ _ hr) hb fun x5 hx5 => ?_
  walk_at "go"
  obtain ⟨a1, a2⟩ := Dg.fmod_in (x := ((x5 : Nat) : Int)) (m := 4) (by decide)
  refine rdU (us := ([0, 7, 30, 999] : List Nat).map fun (x : Nat) => U.int (x : Int)) a1 a2 c4 fun u hu => ?_
  obtain ⟨other, ho, rfl⟩ := List.mem_map.mp hu
  have ho' : other < 1000 := by
    simp only [List.mem_cons, List.not_mem_nil, or_false] at ho
    omega
  have f15 : Fr μ (μ4 ++ [Cell.lst ((TXS.map (·.1)).map U.str)]) := f14.snoc
  have c5 : (μ4 ++ [Cell.lst ((TXS.map (·.1)).map U.str)])[μ4.length]? = some (.lst ((TXS.map (·.1)).map U.str)) := get_snoc
  rw [show [U.str "|- com : skip", U.str "", U.str " ", U.str "p : com |- com :  p", U.str "x  = y"] = (TXS.map (·.1)).map U.str from rfl]
  generalize (μ4 ++ [Cell.lst ((TXS.map (·.1)).map U.str)]) = μ5 at *
  refine h7.ap (k := 6) (f15.at_ _ _ hr) hb fun x6 hx6 => ?_
  walk_at "go"
  obtain ⟨a3, a4⟩ := Dg.fmod_in (x := ((x6 : Nat) : Int)) (m := 5) (by decide)
  refine rdU (us := (TXS.map (·.1)).map U.str) a3 a4 c5 fun u hu => ?_
  obtain ⟨t, ht, rfl⟩ := List.mem_map.mp hu
  have kmem : ∀ w ∈ NMW, w ∈ NMW := fun _ h => h
  refine add_new get_snoc f15.snoc (by simp) fun r1 μ6 f6 c6 => ?_
  refine add_new c6 f6 (by simp) fun r2 μ7 f7 c7 => ?_
  refine add_new c7 f7 (by simp) fun r3 μ8 f8 c8 => ?_
  refine q [.tx false one t, .tx true two t, .nm "show" [one], .nm "run" [one], .nm "code" [two], .nm "fill" [one, two, three], .nm "witness" [one, two, three], .nm "same" [one, two], .nm "differ" [one, two], .nm "certify" [two, one], .nm "twin" [one, two], .nm "rule" [one, three], .nm "simplify" [one, two], .nm "attack" [three, two], .ap small one other two] r3 μ8 (fun p hp => ?_) (by simp) f8 c8
  simp only [List.mem_cons, List.not_mem_nil, or_false] at hp
  have l1 : ∀ w ∈ (["show", "run", "code"] : List Str), w ∈ NMW ∧ 1 = ((FTS.lookup w).getD []).length := by decide +kernel
  have l2 : ∀ w ∈ (["same", "differ", "certify", "twin", "rule", "simplify", "attack"] : List Str), w ∈ NMW ∧ 2 = ((FTS.lookup w).getD []).length := by decide +kernel
  have l3 : ∀ w ∈ (["fill", "witness"] : List Str), w ∈ NMW ∧ 3 = ((FTS.lookup w).getD []).length := by decide +kernel
  have o1 : ∀ w ∈ (["show", "run", "code"] : List Str), ∀ a, isNm a = true → (Pt.nm w [a]).ok := fun w hw a ha => ok_nm (l1 w hw).1 (l1 w hw).2 (by simp [ha])
  have o2 : ∀ w ∈ (["same", "differ", "certify", "twin", "rule", "simplify", "attack"] : List Str), ∀ a b, isNm a = true → isNm b = true → (Pt.nm w [a, b]).ok := fun w hw a b ha hb => ok_nm (l2 w hw).1 (l2 w hw).2 (by simp [ha, hb])
  have o3 : ∀ w ∈ (["fill", "witness"] : List Str), (Pt.nm w [one, two, three]).ok := fun w hw => ok_nm (l3 w hw).1 (l3 w hw).2 (by simp [n1, n2, n3])
  rcases hp with rfl | rfl | rfl | rfl | rfl | rfl | rfl | rfl | rfl | rfl | rfl | rfl | rfl | rfl | rfl
  · exact ⟨n1, ht⟩
  · exact ⟨n2, ht⟩
  · exact o1 _ (by decide +kernel) _ n1
  · exact o1 _ (by decide +kernel) _ n1
  · exact o1 _ (by decide +kernel) _ n2
  · exact o3 _ (by decide +kernel)
  · exact o3 _ (by decide +kernel)
  · exact o2 _ (by decide +kernel) _ _ n1 n2
  · exact o2 _ (by decide +kernel) _ _ n1 n2
  · exact o2 _ (by decide +kernel) _ _ n2 n1
  · exact o2 _ (by decide +kernel) _ _ n1 n2
  · exact o2 _ (by decide +kernel) _ _ n1 n3
  · exact o2 _ (by decide +kernel) _ _ n1 n2
  · exact o2 _ (by decide +kernel) _ _ n3 n2
  · exact ⟨by omega, n1, ho', n2⟩
/-! the text of a line -/
theorem w_strI {n : Nat} {μ : Mem} {Q : U → Mem → Prop} {E : Str → Mem → Prop} (h : n < 1000) : wpE (bStr [.int (n : Int)] μ) Q E = Q (.str (num n)) μ := by
  have e : (toString (n : Int) : Str) = num n := ext_tl (by rw [TL.tl_num]; rfl)
  have : bStr [.int (n : Int)] μ = .ok (.str (num n)) μ := by
    unfold bStr
    have h1 : (n : Int).natAbs.log2 < 1920 := by
      have := Nat.log2_le_self (n : Int).natAbs
      omega
    have h2 : PyData.strOk (toString (n : Int) : Str) = true := by
      rw [e]; exact Lw.sok (wd_num h).ok
    simp only [h1, h2, and_self, if_true]
    rw [e]
  rw [this]; rfl
theorem w_strS {z : Str} {μ : Mem} {Q : U → Mem → Prop} {E : Str → Mem → Prop} : wpE (bStr [.str z] μ) Q E = Q (.str z) μ := propext ⟨fun h => h, fun h => h⟩
structure LTextS (g : List U → Mem → Res U) : Prop where
  ap : ∀ {p : Pt} {μ : Mem} {Q : U → Mem → Prop} {E : Str → Mem → Prop}, p.ok → (∀ μ', Fr μ μ' → Q (.str (txP p)) μ') → wpE (g [ptU p] μ) Q E
theorem lm_inL {a : Str} {r : Nat} {μ : Mem} (h : μ[r]? = some (.lst [.str "let", .str "module"])) : inU (.str a) (.ref r) μ = some (decide (a ∈ LM)) := by
  have := in_strsL (t := a) (xs := LM) h
  rw [this]
  congr 1
  simp only [LM, List.any_cons, List.any_nil, List.mem_cons, List.not_mem_nil, or_false, Bool.or_false, Bool.decide_or]
  congr 1 <;> exact decide_eq_decide.mpr ⟨fun h => h.symm, fun h => h.symm⟩
theorem t_se : tl (" = " : Str) = [32, 61, 32] := by decide +kernel
theorem len_of {z : Str} {n : Nat} (h : (tl z).length ≤ n) : z.length ≤ n := by rw [TL.len_tl]; exact h
theorem nm_le {n : Str} (h : isNm n = true) : n.length ≤ 4 := by
  unfold isNm at h
  simp only [Bool.and_eq_true, decide_eq_true_eq] at h
  exact h.1.1.2
theorem kw_le (m : Bool) : (kw m).length ≤ 6 := by cases m <;> decide +kernel
def sU : U → Str
  | .str z => z
  | .int i => num i.toNat
  | _ => ""
theorem law_text_s {C : Calls} : LTextS (runDef 2 (b__law_text C)) := by
  constructor
  intro p μ Q E o q
  have gen : ∀ (us : List U), ptU p = .tup us → (∃ r, us = .str (hdP p) :: r) → us.map sU = hdP p :: tlP p → (∀ u ∈ us, (∃ z, u = .str z) ∨ ∃ n : Nat, n < 1000 ∧ u = .int (n : Int)) → hdP p ∉ LM → wpE (runDef 2 (b__law_text C) [ptU p] μ) Q E := by
    intro us e ⟨r, er⟩ hs hg hn
    have hlen : us.length ≤ 13 := by
      have := congrArg List.length hs
      rw [List.length_map, List.length_cons] at this
      have := (tl_wd o).2.2
      omega
    rw [e]
    subst er
    unfold b__law_text
    walk_at "go"
    rw [w_in]
    refine ⟨_, lm_inL get_snoc, _, rfl, ?_⟩
    rw [if_neg (by simpa using hn), w_mtS]
    walk_at "go"
    have f0 : Fr μ (μ ++ [Cell.lst [U.str "let", U.str "module"]]) := Fr.refl.snoc
    generalize (μ ++ [Cell.lst [U.str "let", U.str "module"]]) = μ1 at *
    refine lc_map (fun u => .str (sU u)) (by omega) (fun i μ2 hi f2 => ?_) fun μ2 f2 c2 => ?_
    · refine ⟨_, rfl, ?_⟩
      have hm := hg _ (List.getElem_mem hi)
      generalize (U.str (hdP p) :: r)[i] = u at *
      walk_at "go"
      rcases hm with ⟨z, rfl⟩ | ⟨n, hn, rfl⟩
      · rw [w_strS]; exact ⟨rfl, .refl⟩
      · rw [w_strI hn]; exact ⟨rfl, .refl⟩
    · have e2 : ((U.str (hdP p) :: r).map fun u => U.str (sU u)) = (hdP p :: tlP p).map U.str := by
        rw [← hs, List.map_map]; rfl
      rw [e2] at c2
      have L := line_w o
      rw [w_joinL c2 ?_ (join_ok' L.ok)]
      · exact q μ2 (f0.trans f2)
      · have : ∀ {qs : List Str}, (∀ p ∈ qs, p.length ≤ 30) → (qs.map (·.length)).sum ≤ qs.length * 30 := by
          intro qs
          induction qs with
          | nil => intro _; simp
          | cons a r ih =>
            intro h
            have h1 := h a (by simp)
            have h2 := ih fun p hp => h p (by simp [hp])
            rw [List.map_cons, List.sum_cons, List.length_cons, Nat.succ_mul]
            omega
        have h1 := this (qs := hdP p :: tlP p) fun w hw => by
          rw [TL.len_tl]
          rcases List.mem_cons.mp hw with rfl | hw
          · exact (wd_of (wds_wd _ (hd_mem o))).len
          · exact ((tl_wd o).1 w hw).len
        have h2 : (" " : Str).length = 1 := by decide +kernel
        have h3 := (tl_wd o).2.2
        rw [h2]
        rw [List.length_cons] at h1 ⊢
        omega
  cases p with
  | tx m n t =>
    obtain ⟨o1, o2⟩ := o
    obtain ⟨wa, wb, wc, wd', we⟩ := txW_facts o2
    have nl := nm_le o1
    have kl := kw_le m
    have f0 : Fr μ (μ ++ [Cell.lst [U.str "let", U.str "module"]]) := Fr.refl.snoc
    have cl : (μ ++ [Cell.lst [U.str "let", U.str "module"]])[μ.length]? = some (.lst [.str "let", .str "module"]) := get_snoc
    have ht : kw m ++ (" " : Str) ++ n ++ (" = " : Str) ++ t = txP (.tx m n t) := ext_tl (by
      unfold txP
      show _ = tl (Txt.join " " (kw m :: n :: "=" :: txW t))
      rw [join_cons, rest_cons, rest_cons]
      have : 32 :: tl t = restL (txW t) := by
        unfold restL
        rw [if_neg wb, ← tl_joinS, wa]
      rw [← this]
      simp only [tl_append, t_sp, t_se, t_eq]
      simp only [List.append_assoc, List.cons_append, List.nil_append, List.append_nil])
    have s1 : (" " : Str).length = 1 := by decide +kernel
    have s2 : (" = " : Str).length = 3 := by decide +kernel
    unfold ptU b__law_text
    walk_at "go"
    rw [w_in]
    refine ⟨_, lm_inL cl, _, rfl, ?_⟩
    rw [if_pos (by simpa using kw_lm m)]
    try walk_at "go"
    rw [w_addS' (by omega) (by omega)]
    try walk_at "go"
    rw [w_addS' (by rw [len_app]; omega) (by omega)]
    try walk_at "go"
    rw [w_addS' (by rw [len_app, len_app]; omega) (by omega)]
    try walk_at "go"
    rw [w_addS' (by rw [len_app, len_app, len_app]; omega) (by omega)]
    rw [ht]
    exact q _ f0
  | nm w ns =>
    obtain ⟨o1, o2, o3⟩ := id o
    obtain ⟨fs, h1, h2, _⟩ := nmw_facts w o1
    refine gen (.str w :: ns.map U.str) rfl ⟨_, rfl⟩ ?_ (fun u hu => ?_) h2
    · show w :: (ns.map U.str).map sU = w :: ns
      rw [List.map_map]
      congr 1
      exact List.map_id' ns
    · rcases List.mem_cons.mp hu with rfl | hu
      · exact .inl ⟨_, rfl⟩
      · obtain ⟨z, _, rfl⟩ := List.mem_map.mp hu
        exact .inl ⟨z, rfl⟩
  | ap a x b y =>
    obtain ⟨o1, o2, o3, o4⟩ := id o
    refine gen [.str "apply", .int (a : Nat), .str x, .int (b : Nat), .str y] rfl ⟨_, rfl⟩ ?_ (fun u hu => ?_) ap_facts.1
    · rfl
    · simp only [List.mem_cons, List.not_mem_nil, or_false] at hu
      rcases hu with rfl | rfl | rfl | rfl | rfl
      · exact .inl ⟨_, rfl⟩
      · exact .inr ⟨a, o1, rfl⟩
      · exact .inl ⟨_, rfl⟩
      · exact .inr ⟨b, o3, rfl⟩
      · exact .inl ⟨_, rfl⟩
open TL (tl ext_tl tl_append joinL numL)
def spT4 (C : Calls) : FS :=
    (sSeq (sIf (tstB (fOp uNe (fVar 2) (fC (.str "apply")))) (sRet (fOp uAdd (fVar 3) (fLc (iSeq (fLst (aCons (fC (.str "abcde")) (aCons (fC (.str "A")) (aCons (fC (.str "1")) (aCons (fC (.str "")) (aCons (fC (.str "if")) (aCons (fC (.str "val")) aNil)))))))) [6] (.one 6) tAll (fOp uAdd (fOp uAdd (fOp uAdd (fVar 2) (fC (.str " "))) (fVar 6)) (fSl (fVar 1) (oSome (fOp uAdd (fOp uAdd (fCall bLen (aCons (fVar 2) aNil)) (fC (.int 1))) (fCall bLen (aCons (fOp ixU (fVar 0) (fC (.int 1))) aNil)))) oNone))))) sNext)
    (sSeq (sFor (iSeq (fLst (aCons (fC (.str "1000")) (aCons (fC (.str "01")) (aCons (fC (.str "-1")) (aCons (fC (.str "")) (aCons (fC (.str "x")) (aCons (fC (.str "+1")) aNil)))))))) (.one 5) (sSeq (sExpr (fMtL gAppend (fVar 3) (aCons (fOp uAdd (fOp uAdd (fOp uAdd (fOp uAdd (fOp uAdd (fOp uAdd (fOp uAdd (fOp uAdd (fVar 2) (fC (.str " "))) (fVar 5)) (fC (.str " "))) (fOp ixU (fVar 0) (fC (.int 2)))) (fC (.str " "))) (fCall bStr (aCons (fOp ixU (fVar 0) (fC (.int 3))) aNil))) (fC (.str " "))) (fOp ixU (fVar 0) (fC (.int 4)))) aNil)))
    (sExpr (fMtL gAppend (fVar 3) (aCons (fOp uAdd (fOp uAdd (fOp uAdd (fOp uAdd (fOp uAdd (fOp uAdd (fVar 2) (fC (.str " 1 "))) (fOp ixU (fVar 0) (fC (.int 2)))) (fC (.str " "))) (fVar 5)) (fC (.str " "))) (fOp ixU (fVar 0) (fC (.int 4)))) aNil)))))
    (sRet (fVar 3))))
def spT3 (C : Calls) : FS :=
    (sSeq (sAsg (.one 3) (fOp uAdd (fVar 3) (fLst (aCons (fOp uAdd (fVar 1) (fC (.str " "))) (aCons (fOp uAdd (fVar 1) (fC (.str " a"))) (aCons (fOp uAdd (fVar 1) (fC (.str " 1"))) aNil))))))
    (spT4 C))
def spT2 (C : Calls) : FS :=
    (sSeq (sIf (tstB (fOp uIn (fVar 2) (fLst (aCons (fC (.str "let")) (aCons (fC (.str "module")) aNil))))) (sSeq (sAsg (.one 4) (fSl (fVar 1) (oSome (fOp uAdd (fOp uAdd (fCall bLen (aCons (fVar 2) aNil)) (fC (.int 1))) (fCall bLen (aCons (fOp ixU (fVar 0) (fC (.int 1))) aNil)))) oNone))
    (sSeq (sAsg (.one 3) (fOp uAdd (fVar 3) (fLst (aCons (fOp uAdd (fOp uAdd (fOp uAdd (fVar 2) (fC (.str " "))) (fOp ixU (fVar 0) (fC (.int 1)))) (fC (.str " ="))) (aCons (fOp uAdd (fOp uAdd (fOp uAdd (fOp uAdd (fVar 2) (fC (.str " "))) (fOp ixU (fVar 0) (fC (.int 1)))) (fC (.str "="))) (fOp ixU (fVar 0) (fC (.int 2)))) (aCons (fOp uAdd (fOp uAdd (fOp uAdd (fOp uAdd (fVar 2) (fC (.str " "))) (fOp ixU (fVar 0) (fC (.int 1)))) (fC (.str " "))) (fOp ixU (fVar 0) (fC (.int 1)))) aNil))))))
    (sRet (fOp uAdd (fVar 3) (fLc (iSeq (fLst (aCons (fC (.str "abcde")) (aCons (fC (.str "Ab")) (aCons (fC (.str "a1")) (aCons (fC (.str "")) (aCons (fC (.str "skip")) (aCons (fC (.str "exp")) aNil)))))))) [6] (.one 6) tAll (fOp uAdd (fOp uAdd (fOp uAdd (fVar 2) (fC (.str " "))) (fVar 6)) (fVar 4))))))) sNext)
    (spT3 C))
theorem spT_is (C : Calls) : b__law_spoilt C = (sSeq (sAsg (.one 2) (fOp ixU (fVar 0) (fC (.int 0))))
    (sSeq (sAsg (.one 3) (fLst (aCons (fOp uAdd (fC (.str " ")) (fVar 1)) (aCons (fOp uAdd (fMtS gUpper (fVar 2) aNil) (fSl (fVar 1) (oSome (fCall bLen (aCons (fVar 2) aNil))) oNone)) (aCons (fOp uAdd (fOp uAdd (fVar 2) (fC (.str "s"))) (fSl (fVar 1) (oSome (fCall bLen (aCons (fVar 2) aNil))) oNone)) (aCons (fVar 2) (aCons (fOp uAdd (fOp uAdd (fVar 2) (fC (.str " "))) (fSl (fVar 1) (oSome (fCall bLen (aCons (fVar 2) aNil))) oNone)) aNil)))))))
    (spT2 C))) := rfl
section
variable {μ : Mem} {Q : U → Mem → Prop} {E : Str → Mem → Prop}
theorem w_add5 {a b : Str} (ha : a.length ≤ 6000) (hb : b.length ≤ 6000) : wpE (uAdd (.str a) (.str b) μ) Q E = Q (.str (a ++ b)) μ := w_addS (Nat.le_trans (show _ ≤ 12000 by omega) (by decide))
theorem w_upper {a : Str} (h : a.length ≤ 5592405) (ok : PyData.strOk (Txt.upper a) = true) : wpE (gUpper (.str a) [] μ) Q E = Q (.str (Txt.upper a)) μ := by
  have : gUpper (.str a) [] μ = .ok (.str (Txt.upper a)) μ := by unfold gUpper; simp only [h, ok, and_self, if_true]
  rw [this]; rfl
theorem w_slS {z : Str} {lo hi : Option Int} (h : z.length ≤ lim) : wpE (slU (.str z) lo hi μ) Q E = Q (.str (L2.cutS z lo hi)) μ := by
  have : slU (.str z) lo hi μ = .ok (.str (L2.cutS z lo hi)) μ := by unfold slU; simp only [h, if_true]
  rw [this]; rfl
end
theorem ptU_hd (p : Pt) : ∃ r, ptU p = .tup (.str (hdP p) :: r) := by
  cases p with
  | tx m n t => exact ⟨_, rfl⟩
  | nm w ns => exact ⟨_, rfl⟩
  | ap a x b y => exact ⟨_, rfl⟩
theorem cut_hd (p : Pt) : tl (L2.cutS (txP p) (some (((hdP p).length : Nat) : Int)) none) = restL (tlP p) := by
  rw [tl_cut, tl_tx, TL.len_tl, List.drop_left]
theorem tx_le {p : Pt} (o : p.ok) : (txP p).length ≤ 4000 := (line_w o).len
theorem cut_le (z : Str) (lo hi : Option Int) : (L2.cutS z lo hi).length ≤ z.length := cutS_length z lo hi
/-- a list of lines that none of them is read -/
structure BadsAt (μ0 : Mem) (r : Nat) (μ : Mem) : Prop where
  ex : ∃ bs : List Str, μ[r]? = some (.lst (bs.map U.str)) ∧ (∀ b ∈ bs, Bad b) ∧ bs.length ≤ 100
  fr : Fr μ0 μ
  le : μ0.length ≤ r
theorem head_s {C : Calls} {p : Pt} {μ : Mem} {Q : U → Mem → Prop} {E : Str → Mem → Prop} (o : p.ok)
    (q : ∀ (bs : List Str) (rr : Nat) (μ' : Mem), μ'[rr]? = some (.lst (bs.map U.str)) → (∀ b ∈ bs, Bad b) → bs.length ≤ 5 → Fr μ μ' → μ.length ≤ rr → Dg.wpS (spT2 C [some (ptU p), some (.str (txP p)), some (.str (hdP p)), some (.ref rr), none, none, none] μ') ⟨fun _ μ' => Q .non μ', Q, fun _ _ => False, fun _ _ => False, fun c _ μ' => E c μ'⟩) :
    wpE (runDef 7 (b__law_spoilt C) [ptU p, .str (txP p)] μ) Q E := by
  obtain ⟨r, er⟩ := ptU_hd p
  obtain ⟨u1, u2, u3, u4, u5, u6, u7, u8, u9⟩ := up_facts _ (hd_mem o)
  have hT := tx_le o
  have b5 := bads5 o (cut_hd p)
  have cl := cut_le (txP p) (some (((hdP p).length : Nat) : Int)) none
  have upw := wd_of u1
  have s1 : (" " : Str).length = 1 := by decide +kernel
  have s2 : ("s" : Str).length = 1 := by decide +kernel
  have hz : (txP p).length ≤ lim := Nat.le_trans hT (by decide)
  have hh : (hdP p).length ≤ lim := Nat.le_trans u4 (by decide)
  rw [spT_is]
  rw [er] at q ⊢
  walk_at "go"
  rw [w_add5 (by omega) (by omega), w_mtS]
  walk_at "go"
  rw [w_upper (by omega) (Lw.sok upw.ok)]
  try walk_at "go"
  rw [w_lenS]
  have ul : (Txt.upper (hdP p)).length ≤ 30 := by rw [TL.len_tl]; exact upw.len
  refine ⟨hh, _, rfl, ?_⟩
  rw [w_slS hz, w_add5 (by omega) (by omega), w_add5 (by omega) (by omega), w_lenS]
  refine ⟨hh, _, rfl, ?_⟩
  rw [w_slS hz, w_add5 (by rw [len_app]; omega) (by omega), w_add5 (by omega) (by omega), w_lenS]
  refine ⟨hh, _, rfl, ?_⟩
  rw [w_slS hz, w_add5 (by rw [len_app]; omega) (by omega)]
  exact q [(" " : Str) ++ txP p, Txt.upper (hdP p) ++ L2.cutS (txP p) (some (((hdP p).length : Nat) : Int)) none, hdP p ++ ("s" : Str) ++ L2.cutS (txP p) (some (((hdP p).length : Nat) : Int)) none, hdP p, hdP p ++ (" " : Str) ++ L2.cutS (txP p) (some (((hdP p).length : Nat) : Int)) none] _ _ get_snoc b5 (by simp) Fr.refl.snoc (Nat.le_refl _)
structure SpoiltS (g : List U → Mem → Res U) : Prop where
  ap : ∀ {p : Pt} {μ : Mem} {Q : U → Mem → Prop} {E : Str → Mem → Prop}, p.ok → (∀ (bs : List Str) r μ', (∀ b ∈ bs, Bad b) → bs.length ≤ 60 → Fr μ μ' → μ'[r]? = some (.lst (bs.map U.str)) → Q (.ref r) μ') → wpE (g [ptU p, .str (txP p)] μ) Q E
/-- lines of a list of names -/
theorem names_s {own : List Nat} {L : List Str} {r : Nat} {e : FE} {s : Slots} {μ : Mem} {Q : U → Mem → Prop} {E : Str → Mem → Prop} (f : Str → Str) (h : μ[r]? = some (.lst (L.map U.str))) (hl : L.length ≤ 100)
    (step : ∀ x ∈ L, ∀ μ', ∃ s1, setT (.one 6) (.str x) (Dg.wipeU s own) = some s1 ∧ wpE (e s1 μ') (fun w μ'' => w = .str (f x) ∧ Fr μ' μ'') (fun _ _ => False))
    (q : ∀ μ', Fr μ μ' → μ'[μ.length]? = some (.lst ((L.map f).map U.str)) → Q (.ref μ.length) μ') : wpE (lcGo (.live r) own (.one 6) tAll e s μ.length fuelF 0 (μ ++ [.lst []])) Q E := by
  refine lc_mapL h (fun u => match u with | .str x => .str (f x) | _ => .non) (by rw [List.length_map]; omega) (fun i μ2 hi f2 => ?_) fun μ2 f2 c2 => ?_
  · have hi' : i < L.length := by simpa using hi
    have ei : (L.map U.str)[i] = .str L[i] := by simp
    rw [ei]
    exact step _ (List.getElem_mem hi') μ2
  · refine q μ2 f2 ?_
    rw [c2, List.map_map, List.map_map]
    rfl
local macro_rules | `(tactic| walk_at "adds") => `(tactic| repeat (first | rw [w_add5 (by (try simp only [len_app]); omega) (by (try simp only [len_app]); omega)] | fail))
open TL (tl ext_tl tl_append joinL numL)
theorem tx_rest {m : Bool} {n t : Str} {k : Int} (hk : k = (((kw m).length + 1 + n.length : Nat) : Int)) : tl (L2.cutS (txP (.tx m n t)) (some k) none) = restL ("=" :: txW t) := by
  subst hk
  rw [tl_cut, tl_tx]
  show (tl (kw m) ++ restL (n :: "=" :: txW t)).drop _ = _
  rw [rest_cons, TL.len_tl, TL.len_tl]
  rw [show tl (kw m) ++ 32 :: (tl n ++ restL ("=" :: txW t)) = (tl (kw m) ++ 32 :: tl n) ++ restL ("=" :: txW t) from by simp only [List.append_assoc, List.cons_append]]
  rw [List.drop_left' (by simp only [List.length_append, List.length_cons]; omega)]
theorem spoilt_tx {C : Calls} {m : Bool} {n t : Str} {μ : Mem} {Q : U → Mem → Prop} {E : Str → Mem → Prop} (o : (Pt.tx m n t).ok) (q : ∀ (bs : List Str) r μ', (∀ b ∈ bs, Bad b) → bs.length ≤ 60 → Fr μ μ' → μ'[r]? = some (.lst (bs.map U.str)) → Q (.ref r) μ') : wpE (runDef 7 (b__law_spoilt C) [ptU (.tx m n t), .str (txP (.tx m n t))] μ) Q E := by
  refine head_s o fun bs rr μ1 c1 hb hl f1 hr => ?_
  have hT := tx_le o
  have hz : (txP (.tx m n t)).length ≤ lim := Nat.le_trans hT (by decide)
  obtain ⟨wa, wb, wc⟩ := tl_wd o
  have bt := bads_tx o
  obtain ⟨o1, o2⟩ := id o
  obtain ⟨ta, tb, tc, td, te⟩ := txW_facts o2
  have nl := nm_le o1
  have kl := kw_le m
  have s1 : (" " : Str).length = 1 := by decide +kernel
  have s2 : (" =" : Str).length = 2 := by decide +kernel
  have s3 : ("=" : Str).length = 1 := by decide +kernel
  unfold spT2 ptU hdP
  walk_at "go"
  rw [w_in]
  refine ⟨_, lm_inL get_snoc, _, rfl, ?_⟩
  rw [if_pos (by simpa using kw_lm m)]
  have f2 : Fr μ (μ1 ++ [Cell.lst [U.str "let", U.str "module"]]) := f1.snoc
  have c2 := get_snoc_lt (c := .lst [U.str "let", U.str "module"]) c1
  generalize (μ1 ++ [Cell.lst [U.str "let", U.str "module"]]) = μ2 at *
  try walk_at "go"
  rw [w_lenS]
  refine ⟨Nat.le_trans (show _ ≤ 6 from kl) (by decide), ?_⟩
  try walk_at "go"
  rw [w_lenS]
  refine ⟨Nat.le_trans nl (by decide), ?_⟩
  try walk_at "go"
  have er := tx_rest (m := m) (n := n) (t := t) (k := ((kw m).length : Int) + 1 + (n.length : Int)) (by push_cast; rfl)
  have hrl : (L2.cutS (txP (.tx m n t)) (some (((kw m).length : Int) + 1 + (n.length : Int))) none).length ≤ 4000 := Nat.le_trans (cut_le _ _ _) hT
  have btn := bads_txn o er
  rw [w_slS hz]
  generalize L2.cutS (txP (.tx m n t)) (some (((kw m).length : Int) + 1 + (n.length : Int))) none = rs at *
  try walk_at "go"
  have tl30 : t.length ≤ 30 := td
  walk_at "adds"
  refine add_new (by assumption) (by assumption) (by simp; omega) fun r3 μ3 f3 c3 => ?_
  try walk_at "go"
  refine ⟨_, listAt_L get_snoc, ?_⟩
  have f4 : Fr μ (μ3 ++ [Cell.lst (BN1.map U.str)]) := f3.snoc
  have c4 := get_snoc_lt (c := .lst (BN1.map U.str)) c3
  have d4 : (μ3 ++ [Cell.lst (BN1.map U.str)])[μ3.length]? = some (.lst (BN1.map U.str)) := get_snoc
  have eb : [U.str "abcde", U.str "Ab", U.str "a1", U.str "", U.str "skip", U.str "exp"] = BN1.map U.str := rfl
  rw [eb]
  generalize (μ3 ++ [Cell.lst (BN1.map U.str)]) = μ4 at *
  refine names_s (fun x => kw m ++ (" " : Str) ++ x ++ rs) d4 (by decide) (fun x hx μ' => ⟨_, rfl, ?_⟩) fun μ5 f5 c5 => ?_
  · have := (bn1_facts x hx).2.2
    walk_at "go"
    walk_at "adds"
    exact ⟨rfl, Fr.refl⟩
  · rw [w_addL' (f5.at_ _ _ c4) c5 (by simp [BN1]; exact Nat.le_trans (show _ ≤ 100 by omega) (by decide))]
    refine q (bs ++ [kw m ++ (" " : Str) ++ n ++ (" =" : Str), kw m ++ (" " : Str) ++ n ++ ("=" : Str) ++ t, kw m ++ (" " : Str) ++ n ++ (" " : Str) ++ n] ++ BN1.map fun x => kw m ++ (" " : Str) ++ x ++ rs) _ _ (fun b hb' => ?_) (by simp [BN1]; omega) (f4.trans f5).snoc ?_
    · rcases List.mem_append.mp hb' with hb' | hb'
      · rcases List.mem_append.mp hb' with hb' | hb'
        · exact hb b hb'
        · exact bt b hb'
      · obtain ⟨x, hx, rfl⟩ := List.mem_map.mp hb'
        exact btn x hx
    · rw [List.map_append, List.map_append]
      exact get_snoc
open TL (tl ext_tl tl_append joinL numL)
theorem to4 {C : Calls} {p : Pt} {μ : Mem} {Q : U → Mem → Prop} {E : Str → Mem → Prop} (o : p.ok) (hn : hdP p ∉ LM)
    (q : ∀ (bs : List Str) (rr : Nat) (μ' : Mem), μ'[rr]? = some (.lst (bs.map U.str)) → (∀ b ∈ bs, Bad b) → bs.length ≤ 8 → Fr μ μ' → μ.length ≤ rr → Dg.wpS (spT4 C [some (ptU p), some (.str (txP p)), some (.str (hdP p)), some (.ref rr), none, none, none] μ') ⟨fun _ μ' => Q .non μ', Q, fun _ _ => False, fun _ _ => False, fun c _ μ' => E c μ'⟩) :
    wpE (runDef 7 (b__law_spoilt C) [ptU p, .str (txP p)] μ) Q E := by
  refine head_s o fun bs rr μ1 c1 hb hl f1 hr => ?_
  have hT := tx_le o
  have b3 := bads3 o hn
  have s1 : (" " : Str).length = 1 := by decide +kernel
  have s2 : (" a" : Str).length = 2 := by decide +kernel
  have s3 : (" 1" : Str).length = 2 := by decide +kernel
  unfold spT2
  walk_at "go"
  rw [w_in]
  refine ⟨_, lm_inL get_snoc, _, rfl, ?_⟩
  rw [if_neg (by simpa using hn)]
  have f2 : Fr μ (μ1 ++ [Cell.lst [U.str "let", U.str "module"]]) := f1.snoc
  have c2 := get_snoc_lt (c := .lst [U.str "let", U.str "module"]) c1
  generalize (μ1 ++ [Cell.lst [U.str "let", U.str "module"]]) = μ2 at *

  unfold spT3
  walk_at "go"
  walk_at "adds"
  rw [w_addL' (get_snoc_lt c2) get_snoc (by simp; exact Nat.le_trans (show _ ≤ 100 by omega) (by decide))]
  refine q (bs ++ [txP p ++ (" " : Str), txP p ++ (" a" : Str), txP p ++ (" 1" : Str)]) _ _ ?_ (fun b hb' => ?_) (by simp; omega) f2.snoc.snoc f2.snoc.le
  · rw [List.map_append]; exact get_snoc
  · rcases List.mem_append.mp hb' with hb' | hb'
    · exact hb b hb'
    · exact b3 b hb'
theorem nm_rest {w n : Str} {ns : List Str} {k : Int} (hk : k = ((w.length + 1 + n.length : Nat) : Int)) : tl (L2.cutS (txP (.nm w (n :: ns))) (some k) none) = restL ns := by
  subst hk
  rw [tl_cut, tl_tx]
  show (tl w ++ restL (n :: ns)).drop _ = _
  rw [rest_cons, TL.len_tl, TL.len_tl]
  rw [show tl w ++ 32 :: (tl n ++ restL ns) = (tl w ++ 32 :: tl n) ++ restL ns from by simp only [List.append_assoc, List.cons_append]]
  rw [List.drop_left' (by simp only [List.length_append, List.length_cons]; omega)]
theorem spoilt_nm {C : Calls} {w : Str} {ns : List Str} {μ : Mem} {Q : U → Mem → Prop} {E : Str → Mem → Prop} (o : (Pt.nm w ns).ok) (q : ∀ (bs : List Str) r μ', (∀ b ∈ bs, Bad b) → bs.length ≤ 60 → Fr μ μ' → μ'[r]? = some (.lst (bs.map U.str)) → Q (.ref r) μ') : wpE (runDef 7 (b__law_spoilt C) [ptU (.nm w ns), .str (txP (.nm w ns))] μ) Q E := by
  obtain ⟨o1, o2, o3⟩ := id o
  obtain ⟨fs, h1, h2, h3, h4, h5, hna⟩ := nmw_facts w o1
  refine to4 o h2 fun bs rr μ1 c1 hb hl f1 hr => ?_
  have hT := tx_le o
  have hz : (txP (.nm w ns)).length ≤ lim := Nat.le_trans hT (by decide)
  cases ns with
  | nil => rw [h1] at o2; exact absurd (List.length_eq_zero_iff.mp o2.symm) h3
  | cons n ns =>
    have nl := nm_le (o3 n (by simp))
    obtain ⟨u1, u2, u3, wl, _⟩ := up_facts _ (hd_mem o)
    have wl' : w.length ≤ 10 := wl
    have s1 : (" " : Str).length = 1 := by decide +kernel
    unfold spT4 ptU hdP
    walk_at "go"
    rw [if_pos (by simpa using hna)]
    refine ⟨_, listAt_L get_snoc, ?_⟩
    have f4 : Fr μ (μ1 ++ [Cell.lst (BN2.map U.str)]) := f1.snoc
    have c4 := get_snoc_lt (c := .lst (BN2.map U.str)) c1
    have d4 : (μ1 ++ [Cell.lst (BN2.map U.str)])[μ1.length]? = some (.lst (BN2.map U.str)) := get_snoc
    have eb : [U.str "abcde", U.str "A", U.str "1", U.str "", U.str "if", U.str "val"] = BN2.map U.str := rfl
    rw [eb]
    generalize (μ1 ++ [Cell.lst (BN2.map U.str)]) = μ4 at *
    have er := nm_rest (w := w) (n := n) (ns := ns) (k := (w.length : Int) + 1 + (n.length : Int)) (by push_cast; rfl)
    have hrl : (L2.cutS (txP (.nm w (n :: ns))) (some ((w.length : Int) + 1 + (n.length : Int))) none).length ≤ 4000 := Nat.le_trans (cut_le _ _ _) hT
    have btn := bads_nm o er
    refine names_s (fun x => w ++ (" " : Str) ++ x ++ (L2.cutS (txP (.nm w (n :: ns))) (some ((w.length : Int) + 1 + (n.length : Int))) none)) d4 (by decide) (fun x hx μ' => ⟨_, rfl, ?_⟩) fun μ5 f5 c5 => ?_
    · have := (bn2_facts x hx).2.2
      walk_at "go"
      walk_at "adds"
      rw [w_lenS]
      refine ⟨Nat.le_trans wl' (by decide), ?_⟩
      try walk_at "go"
      rw [w_lenS]
      refine ⟨Nat.le_trans nl (by decide), ?_⟩
      try walk_at "go"
      rw [w_slS hz]
      generalize (L2.cutS (txP (.nm w (n :: ns))) (some ((w.length : Int) + 1 + (n.length : Int))) none) = rs at *
      walk_at "adds"
      exact ⟨rfl, Fr.refl⟩
    · generalize (L2.cutS (txP (.nm w (n :: ns))) (some ((w.length : Int) + 1 + (n.length : Int))) none) = rs at *
      rw [w_addL' (f5.at_ _ _ c4) c5 (by simp [BN2]; exact Nat.le_trans (show _ ≤ 100 by omega) (by decide))]
      refine q (bs ++ BN2.map fun x => w ++ (" " : Str) ++ x ++ rs) _ _ (fun b hb' => ?_) (by simp [BN2]; omega) (f4.trans f5).snoc ?_
      · rcases List.mem_append.mp hb' with hb' | hb'
        · exact hb b hb'
        · obtain ⟨x, hx, rfl⟩ := List.mem_map.mp hb'
          exact btn x hx
      · rw [List.map_append]
        exact get_snoc
theorem spoilt_ap {C : Calls} {a b : Nat} {x y : Str} {μ : Mem} {Q : U → Mem → Prop} {E : Str → Mem → Prop} (o : (Pt.ap a x b y).ok) (q : ∀ (bs : List Str) r μ', (∀ b ∈ bs, Bad b) → bs.length ≤ 60 → Fr μ μ' → μ'[r]? = some (.lst (bs.map U.str)) → Q (.ref r) μ') : wpE (runDef 7 (b__law_spoilt C) [ptU (.ap a x b y), .str (txP (.ap a x b y))] μ) Q E := by
  refine to4 o ap_facts.1 fun bs rr μ1 c1 hb hl f1 hr => ?_
  have bad := bads_ap o
  obtain ⟨o1, o2, o3, o4⟩ := id o
  have nx := nm_le o2
  have ny := nm_le o4
  have nb : (num b).length ≤ 4 := by
    have := (wd_num o3).len
    have h2 := (num_ok o3).1
    unfold num
    rw [len_mkS]; omega
  have s1 : (" " : Str).length = 1 := by decide +kernel
  have s2 : (" 1 " : Str).length = 3 := by decide +kernel
  have s3 : ("apply" : Str).length = 5 := by decide +kernel
  unfold spT4 ptU hdP
  walk_at "go"
  refine ⟨_, listAt_L get_snoc, ?_⟩
  have f4 : Fr μ (μ1 ++ [Cell.lst (BNB.map U.str)]) := f1.snoc
  have c4 := get_snoc_lt (c := .lst (BNB.map U.str)) c1
  have d4 : (μ1 ++ [Cell.lst (BNB.map U.str)])[μ1.length]? = some (.lst (BNB.map U.str)) := get_snoc
  have lr : rr ≠ μ1.length := by have := get_lt c1; omega
  have eb : [U.str "1000", U.str "01", U.str "-1", U.str "", U.str "x", U.str "+1"] = BNB.map U.str := rfl
  rw [eb]
  generalize (μ1 ++ [Cell.lst (BNB.map U.str)]) = μ4 at *
  generalize μ1.length = bl at *
  refine for_live (BNB.map U.str) (fun i s' μ' => μ'[bl]? = some (.lst (BNB.map U.str)) ∧ Fr μ μ' ∧ (∃ bs : List Str, μ'[rr]? = some (.lst (bs.map U.str)) ∧ (∀ b ∈ bs, Bad b) ∧ bs.length ≤ 8 + 2 * i) ∧ ∃ x5, s' = [some (.tup [.str "apply", .int a, .str x, .int b, .str y]), some (.str (txP (.ap a x b y))), some (.str "apply"), some (.ref rr), none, x5, none]) (by decide) ⟨d4, f4, ⟨bs, c4, hb, by omega⟩, _, rfl⟩ (fun i s' μ' h => h.1) ?_ ?_
  · rintro i s' μ' hi ⟨i1, i2, ⟨bs', i3, i4, i5⟩, x5, rfl⟩
    have hi' : i < BNB.length := by rw [List.length_map] at hi; exact hi
    have ei : (BNB.map U.str)[i]'hi = .str (BNB[i]'hi') := List.getElem_map _
    rw [ei]
    have hi6 : i < 6 := hi'
    have zm : BNB[i] ∈ BNB := List.getElem_mem hi'
    have zl := (bnb_facts _ zm).2.2
    obtain ⟨b1, b2⟩ := bad _ zm
    generalize (BNB[i]'hi') = z at *
    refine ⟨_, rfl, ?_⟩
    walk_at "go"
    refine ⟨_, lstU_L i3, ?_⟩
    walk_at "adds"
    rw [w_strI o3]
    walk_at "adds"
    rw [w_append i3 (by rw [List.length_map]; exact Nat.lt_of_le_of_lt (show _ ≤ 100 by omega) (by decide))]
    have j3 : (μ'.set rr (.lst (bs'.map U.str ++ [.str (("apply" : Str) ++ (" " : Str) ++ z ++ (" " : Str) ++ x ++ (" " : Str) ++ num b ++ (" " : Str) ++ y)])))[rr]? = _ := get_set i3
    have j1 := get_set_ne (c := .lst (bs'.map U.str ++ [.str (("apply" : Str) ++ (" " : Str) ++ z ++ (" " : Str) ++ x ++ (" " : Str) ++ num b ++ (" " : Str) ++ y)])) i1 lr
    have j2 := i2.put (c := .lst (bs'.map U.str ++ [.str (("apply" : Str) ++ (" " : Str) ++ z ++ (" " : Str) ++ x ++ (" " : Str) ++ num b ++ (" " : Str) ++ y)])) hr
    generalize (μ'.set rr (.lst (bs'.map U.str ++ [.str (("apply" : Str) ++ (" " : Str) ++ z ++ (" " : Str) ++ x ++ (" " : Str) ++ num b ++ (" " : Str) ++ y)]))) = μ7 at *
    refine ⟨_, lstU_L j3, ?_⟩
    walk_at "adds"
    rw [w_append j3 (by rw [List.length_append, List.length_map]; exact Nat.lt_of_le_of_lt (show _ ≤ 100 by simp only [List.length_cons, List.length_nil]; omega) (by decide))]
    refine ⟨get_set_ne j1 lr, j2.put hr, ⟨bs' ++ [_] ++ [_], by rw [get_set j3, List.map_append, List.map_append]; rfl, fun w hw => ?_, by simp; omega⟩, _, rfl⟩
    rcases List.mem_append.mp hw with hw | hw
    · rcases List.mem_append.mp hw with hw | hw
      · exact i4 w hw
      · rw [List.mem_singleton.mp hw]; exact b1
    · rw [List.mem_singleton.mp hw]; exact b2
  · rintro s' μ' ⟨i1, i2, ⟨bs', i3, i4, i5⟩, x5, rfl⟩
    exact ⟨_, rfl, q bs' rr μ' i4 (by have : (BNB.map U.str).length = 6 := rfl; omega) i2 i3⟩
open TL (tl ext_tl tl_append joinL numL)
theorem spoilt_s {C : Calls} : SpoiltS (runDef 7 (b__law_spoilt C)) := by
  constructor
  intro p μ Q E o q
  cases p with
  | tx m n t => exact spoilt_tx o q
  | nm w ns => exact spoilt_nm o q
  | ap a x b y => exact spoilt_ap o q
theorem w_notNN {μ : Mem} {Q : U → Mem → Prop} {E : Str → Mem → Prop} : wpE (uNotN .non .non μ) Q E = Q (.bl false) μ := propext ⟨fun h => h, fun h => h⟩
theorem w_isNN {μ : Mem} {Q : U → Mem → Prop} {E : Str → Mem → Prop} : wpE (uIsN .non .non μ) Q E = Q (.bl true) μ := propext ⟨fun h => h, fun h => h⟩
def lwS (C : Calls) : FS := (sFor (iSeq (fDef 2 (C 11) (aCons (fVar 2) (aCons (fVar 3) aNil)))) (.one 6) (sIf (tstB (fOp uNotN (fDef 1 (C 5) (aCons (fVar 6) aNil)) (fC .non))) (sRet (fC (.bl false))) sNext))
def lwK (C : Calls) : FS := sSeq (sFor (iRg1 (fCall bLen (aCons (fVar 2) aNil))) (.one 5) (sIf (tOr' (tst (fIsi "bool" (fOp ixU (fVar 4) (fVar 5)))) (tstB (fOp uNe (fIsi "int" (fOp ixU (fVar 4) (fVar 5))) (fIsi "int" (fOp ixU (fVar 2) (fVar 5)))))) (sRet (fC (.bl false))) sNext)) (lwS C)
def lwB (C : Calls) : FS := (sSeq (sAsg (.one 3) (fDef 1 (C 10) (aCons (fVar 2) aNil)))
    (sSeq (sAsg (.one 4) (fDef 1 (C 5) (aCons (fVar 3) aNil)))
    (sSeq (sIf (tOr' (tNt (tst (fIsi "tuple" (fVar 4)))) (tstB (fOp uNe (fVar 4) (fVar 2)))) (sRet (fC (.bl false))) sNext)
    (lwK C))))
def lwE (C : Calls) : FS := (sRet (fAnd (fOp uIsN (fDef 1 (C 5) (aCons (fC (.str " ")) aNil)) (fC .non)) (fAnd (fOp uIsN (fDef 1 (C 5) (aCons (fC (.str "tell a")) aNil)) (fC .non)) (fOp uIsN (fDef 1 (C 5) (aCons (fC (.str "apply a")) aNil)) (fC .non)))))
theorem lw_is (C : Calls) : b_law C = (sSeq (sAsg (.one 1) (fDef 1 (C 6) (aCons (fVar 0) aNil)))
    (sSeq (sIf (tstB (fOp uNe (fDef 1 (C 5) (aCons (fC (.str "")) aNil)) (fTup aNil))) (sRet (fC (.bl false))) sNext)
    (sSeq (sFor (iSeq (fDef 1 (C 9) (aCons (fVar 1) aNil))) (.one 2) (lwB C))
    (lwE C)))) := rfl
theorem em_w : WOk "" [""] := join_w (ws := [""]) (fun w hw => by rw [List.mem_singleton.mp hw]; exact wd_em) (by simp) (by simp)
theorem last_w : WOk " " ["", ""] ∧ WOk "tell a" ["tell", "a"] ∧ WOk "apply a" ["apply", "a"] := by
  have h : ∀ (z : Str) (ws : List Str), Txt.join " " ws = z → (ws.all wdB) = true → ws ≠ [] → ws.length ≤ 100 → WOk z ws := fun z ws e a b c => by
    subst e
    exact join_w (fun w hw => wd_of (List.all_eq_true.mp a w hw)) b c
  exact ⟨h _ _ (by decide +kernel) (by decide +kernel) (by simp) (by simp), h _ _ (by decide +kernel) (by decide +kernel) (by simp) (by simp), h _ _ (by decide +kernel) (by decide +kernel) (by simp) (by simp)⟩
theorem last_r : resW [("" : Str), ""] = .non ∧ resW [("tell" : Str), "a"] = .non ∧ resW [("apply" : Str), "a"] = .non := by
  refine ⟨res_form em_facts.1 (form_none em_facts.2.1) (by simp), res_form (by decide +kernel) (form_none (by decide +kernel)) (by simp), res_form ap_facts.1 (form_len ap_facts.2 (by simp)) (by simp)⟩
theorem spo_loop {C : Calls} {p : Pt} {s0 s1 x4 x5 x6 : Option U} {μ0 μ : Mem} {D : Dn} (h5 : ReadS (C 5)) (h11 : SpoiltS (C 11)) (o : p.ok) (f : Fr μ0 μ)
    (q : ∀ x6 μ', Fr μ0 μ' → D.nx [s0, s1, some (ptU p), some (.str (txP p)), x4, x5, x6] μ') : Dg.wpS (lwS C [s0, s1, some (ptU p), some (.str (txP p)), x4, x5, x6] μ) D := by
  unfold lwS
  walk_at "go"
  refine h11.ap o fun bs r μ1 hb hl f1 c1 => ?_
  refine ⟨_, listAt_L c1, ?_⟩
  have f01 := f.trans f1
  refine for_live (bs.map U.str) (fun i s' μ' => μ'[r]? = some (.lst (bs.map U.str)) ∧ Fr μ0 μ' ∧ ∃ x6, s' = [s0, s1, some (ptU p), some (.str (txP p)), x4, x5, x6]) (by rw [List.length_map]; omega) ⟨c1, f01, _, rfl⟩ (fun i s' μ' h => h.1) ?_ ?_
  · rintro i s' μ' hi ⟨i1, i2, x6, rfl⟩
    have hi' : i < bs.length := by simpa using hi
    have ei : (bs.map U.str)[i] = .str bs[i] := by simp
    rw [ei]
    obtain ⟨ws, w1, w2⟩ := hb _ (List.getElem_mem hi')
    generalize bs[i] = z at *
    refine ⟨_, rfl, ?_⟩
    walk_at "go"
    refine h5.ap w1 fun μ2 f2 => ?_
    rw [w2, w_notNN]
    refine ⟨false, rfl, ?_⟩
    rw [if_neg (by simp)]
    exact ⟨f2.at_ _ _ i1, i2.trans f2, _, rfl⟩
  · rintro s' μ' ⟨i1, i2, x6, rfl⟩
    exact q _ _ i2
theorem k_loop {C : Calls} {p : Pt} {s0 s1 x5 x6 : Option U} {μ0 μ : Mem} {D : Dn} (h5 : ReadS (C 5)) (h11 : SpoiltS (C 11)) (o : p.ok) (f : Fr μ0 μ)
    (q : ∀ x5 x6 μ', Fr μ0 μ' → D.nx [s0, s1, some (ptU p), some (.str (txP p)), some (ptU p), x5, x6] μ') : Dg.wpS (lwK C [s0, s1, some (ptU p), some (.str (txP p)), some (ptU p), x5, x6] μ) D := by
  obtain ⟨us, e, hn, hu⟩ : ∃ us, ptU p = .tup us ∧ us.length < 100 ∧ ∀ u ∈ us, (∃ z, u = .str z) ∨ ∃ i : Int, u = .int i := by
    have ht := (tl_wd o).2.2
    cases p with
    | tx m n t => exact ⟨_, rfl, by simp, by simp⟩
    | nm w ns =>
      refine ⟨_, rfl, by simp [tlP] at ht ⊢; omega, fun u hu => ?_⟩
      rcases List.mem_cons.mp hu with rfl | hu
      · exact .inl ⟨_, rfl⟩
      · obtain ⟨z, _, rfl⟩ := List.mem_map.mp hu
        exact .inl ⟨_, rfl⟩
    | ap a x b y => exact ⟨_, rfl, by simp, by simp⟩
  unfold lwK
  rw [s_seq]
  walk_at "go"
  have key : ∀ x5 μ', Fr μ0 μ' → Dg.wpS (lwS C [s0, s1, some (ptU p), some (.str (txP p)), some (ptU p), x5, x6] μ') D := fun x5 μ' f' => spo_loop h5 h11 o f' fun x6 μ8 f8 => q x5 x6 μ8 f8
  rw [e] at key ⊢
  walk_at "go"
  refine ⟨by simp [okR]; omega, ?_⟩
  refine for_rng us.length (fun i s' μ' => Fr μ0 μ' ∧ ∃ x5, s' = [s0, s1, some (.tup us), some (.str (txP p)), some (.tup us), x5, x6]) (by omega) (by omega) ⟨f, _, rfl⟩ ?_ ?_
  · rintro i s' μ' hi ⟨i1, x5, rfl⟩
    refine ⟨_, rfl, ?_⟩
    walk_at "go"
    obtain ⟨t, ht, hb⟩ : ∃ t, tyU μ' us[i] = some t ∧ isTy "bool" t = false := by
      rcases hu _ (List.getElem_mem hi) with ⟨z, e⟩ | ⟨z, e⟩
      · rw [e]; exact ⟨_, rfl, by decide⟩
      · rw [e]; exact ⟨_, rfl, by decide⟩
    refine ⟨_, (atI_nat i).trans (List.getElem?_eq_getElem hi), _, ht, _, rfl, ?_⟩
    rw [hb, if_neg (by simp)]
    refine ⟨_, (atI_nat i).trans (List.getElem?_eq_getElem hi), _, ht, _, (atI_nat i).trans (List.getElem?_eq_getElem hi), _, ht, _, eq_bl, ?_⟩
    rw [if_neg (by simp)]
    exact ⟨i1, _, rfl⟩
  · rintro s' μ' ⟨i1, x5, rfl⟩
    exact key x5 μ' i1
theorem strs_pu : ∀ ns : List Str, pus (ns.map U.str) = true ∧ dps (ns.map U.str) = 0
  | [] => ⟨rfl, rfl⟩
  | n :: ns => by
    obtain ⟨a, b⟩ := strs_pu ns
    exact ⟨by simp [pus, pu, a], by simp [dps, dp, b]⟩
theorem pt_pu (p : Pt) : pu (ptU p) = true ∧ dp (ptU p) ≤ 1 := by
  cases p with
  | tx m n t => exact ⟨rfl, by simp [ptU, dp, dps]⟩
  | nm w ns =>
    obtain ⟨a, b⟩ := strs_pu ns
    exact ⟨by simp [ptU, pu, pus, a], by simp [ptU, dp, dps, b]⟩
  | ap a x b y => exact ⟨rfl, by simp [ptU, dp, dps]⟩
theorem pt_ty (p : Pt) (μ : Mem) : tyU μ (ptU p) = some "tuple" := by cases p <;> rfl
theorem body_s {C : Calls} {p : Pt} {s0 s1 x3 x4 x5 x6 : Option U} {μ : Mem} {D : Dn} (h5 : ReadS (C 5)) (h10 : LTextS (C 10)) (h11 : SpoiltS (C 11)) (o : p.ok)
    (q : ∀ x3 x4 x5 x6 μ', Fr μ μ' → D.nx [s0, s1, some (ptU p), x3, x4, x5, x6] μ') : Dg.wpS (lwB C [s0, s1, some (ptU p), x3, x4, x5, x6] μ) D := by
  have key : ∀ μ', Fr μ μ' → Dg.wpS (lwK C [s0, s1, some (ptU p), some (.str (txP p)), some (ptU p), x5, x6] μ') D := fun μ' f' => k_loop h5 h11 o f' fun x5 x6 μ8 f8 => q _ _ x5 x6 μ8 f8
  unfold lwB
  generalize lwK C = B at *
  walk_at "go"
  refine h10.ap o fun μ1 f1 => ?_
  try walk_at "go"
  refine h5.ap (line_w o) fun μ2 f2 => ?_
  rw [good_line o]
  try walk_at "go"
  obtain ⟨pa, pb⟩ := pt_pu p
  refine ⟨_, pt_ty p μ2, _, rfl, ?_⟩
  rw [if_neg (by decide)]
  refine ⟨_, eq_self pa (by omega), ?_⟩
  rw [if_neg (by simp)]
  exact key μ2 (f1.trans f2)
theorem law_ok {C : Calls} (h5 : ReadS (C 5)) (h6 : RowS (C 6)) (h9 : LinesS (C 9)) (h10 : LTextS (C 10)) (h11 : SpoiltS (C 11)) {ns : List Int} (h : ns.length ≤ 63) : Yes (runDef 7 (b_law C) [.frl (ns.map U.int)] []) := by
  refine Yes.of ?_
  rw [lw_is]
  have key := @body_s C
  generalize lwB C = B at *
  unfold lwE
  walk_at "go"
  refine h6.ap h fun xs r μ1 xb xl f1 c1 => ?_
  try walk_at "go"
  refine h5.ap em_w fun μ2 f2 => ?_
  rw [show resW [("" : Str)] = .tup [] from rfl]
  try walk_at "go"
  refine ⟨_, eq_self rfl (by decide), ?_⟩
  rw [if_neg (by simp)]
  refine h9.ap (f2.at_ _ _ c1) xb fun ps rp μ3 ok lp f3 c3 => ?_
  refine ⟨_, listAt_L c3, ?_⟩
  refine for_live (ps.map ptU) (fun i s' μ' => μ'[rp]? = some (.lst (ps.map ptU)) ∧ ∃ x2 x3 x4 x5 x6, s' = [some (.frl (ns.map U.int)), some (.ref r), x2, x3, x4, x5, x6]) (by rw [List.length_map]; omega) ⟨c3, _, _, _, _, _, rfl⟩ (fun i s' μ' h => h.1) ?_ ?_
  · rintro i s' μ' hi ⟨i1, x2, x3, x4, x5, x6, rfl⟩
    have hi' : i < ps.length := by simpa using hi
    have ei : (ps.map ptU)[i] = ptU ps[i] := by simp
    rw [ei]
    have op := ok _ (List.getElem_mem hi')
    generalize ps[i] = p at *
    refine ⟨_, rfl, ?_⟩
    simp (config := {decide := true}) only [Dg.setAll, w_run, w_geXI, w_geXP, w_lz, w_op, w_isi, Dg.wipeU, w_powI, w_intB, w_sl, w_oNone, w_oSome, w_slT, w_slF, w_ixF, w_lenF, w_abs, w_max2, w_min2, w_fdivI, w_neg, w_andE, w_orE, w_notE, w_chain, w_c, w_var, w_call, w_def, w_anil, w_acons, w_tup, w_lst, w_int, w_intB, w_lenT, w_addI, w_subI, w_modI, w_mulI, w_ltI, w_leI, w_gtI, w_geI, w_eq, w_ne, w_ixT, w_if, w_nt, w_an, w_or, w_all, w_tstB, w_tst, w_app, w_lc, w_for, w_iseqT, w_rg1, w_rev1, w_d0, Dg.eq_str, Dg.eq_int, s_seq, s_next, s_brk, s_cnt, s_expr, s_ret, s_retN, s_if, w_getE, w_items, w_keys, w_fmt, w_js0, w_js, s_asg1, s_store, s_tryAs, s_try, w_isX, s_raise, List.map_cons, List.map_nil, List.cons_append, List.nil_append, List.length_cons, List.length_nil, List.replicate_succ, List.replicate_zero, Nat.add_sub_cancel, Nat.sub_self, Nat.sub_zero, Nat.reduceAdd, Nat.reduceSub, Nat.zero_add, List.set_cons_succ, List.set_cons_zero, List.getElem?_cons_zero, List.getElem?_cons_succ, Option.some.injEq, exists_eq_left', exists_eq_left, exists_eq_right', U.bl.injEq, U.int.injEq, U.ref.injEq, U.str.injEq, atI_0, atI_1, atI_2, atI_3, atI_4, atI_5, if_true, if_false, true_and, and_true, decide_true, decide_false, Bool.not_true, Bool.not_false, reduceCtorEq, ite_true, ite_false, decide_eq_true_eq, Bool.true_eq_false, Bool.false_eq_true]
    exact key h5 h10 h11 op fun x3 x4 x5 x6 μ8 f8 => ⟨f8.at_ _ _ i1, _, _, _, _, _, rfl⟩
  · rintro s' μ' ⟨i1, x2, x3, x4, x5, x6, rfl⟩
    obtain ⟨l1, l2, l3⟩ := last_w
    obtain ⟨r1, r2, r3⟩ := last_r
    refine h5.ap l1 fun μ4 f4 => ?_
    rw [r1, w_isNN]
    refine ⟨true, rfl, ?_⟩
    rw [if_pos rfl]
    refine h5.ap l2 fun μ5 f5 => ?_
    rw [r2, w_isNN]
    refine ⟨true, rfl, ?_⟩
    rw [if_pos rfl]
    refine h5.ap l3 fun μ6 f6 => ?_
    rw [r3, w_isNN]
theorem t0 (k : Nat) : LetterS (call (k + 1) 0) := letter_s (C := call k)
theorem t1 (k : Nat) : NameS (call (k + 2) 1) := name_s (C := call (k + 1)) (t0 k)
theorem t2 (k : Nat) : NumberS (call (k + 1) 2) := number_s (C := call k)
theorem t3 (k : Nat) : FitsS (call (k + 3) 3) := fits_s (C := call (k + 2)) (t1 k) (t2 (k + 1))
theorem t4 (k : Nat) : WithTextS (call (k + 3) 4) := with_text_s (C := call (k + 2)) (t1 k)
theorem t5 (k : Nat) : ReadS (call (k + 4) 5) := read_s (C := call (k + 3)) (t3 k) (t4 k)
theorem t6 (k : Nat) : RowS (call (k + 1) 6) := row_s (C := call k)
theorem t7 (k : Nat) : AtS (call (k + 1) 7) := at_s (C := call k)
theorem t8 (k : Nat) : NmS (call (k + 1) 8) := nm_s (C := call k)
theorem t9 (k : Nat) : LinesS (call (k + 2) 9) := lines_s (C := call (k + 1)) (t7 k) (t8 k)
theorem t10 (k : Nat) : LTextS (call (k + 1) 10) := law_text_s (C := call k)
theorem t11 (k : Nat) : SpoiltS (call (k + 1) 11) := spoilt_s (C := call k)
theorem law_t (k : Nat) {ns : List Int} (h : ns.length ≤ 63) : Yes (call (k + 5) 12 [.frl (ns.map U.int)] []) := by
  rw [call_law]
  exact law_ok (C := call (k + 4)) (t5 k) (t6 (k + 3)) (t9 (k + 2)) (t10 (k + 3)) (t11 (k + 3)) h
theorem law_true (ns : List Int) (h : ns.length ≤ 63) : ∃ μ, call 190 12 [.frl (ns.map U.int)] [] = .ok (.bl true) μ := (law_t 185 h).ap
end Lw
open PySem PySem.W PySem.Calls PyProof.Rows
set_option maxRecDepth 100000 in
set_option maxHeartbeats 0 in
theorem PySem.Challenge.cw_doppelganger_k88_commands_read_holds : PySem.Challenge.rw_doppelganger_k88_commands_read.Holds := by
  w_on; o_law
  refine HandSHeadRun.head_any (r := OpenLaw.row PySem.Challenge.rw_doppelganger_k88_commands_read) (q := view (OpenLaw.row PySem.Challenge.rw_doppelganger_k88_commands_read).prog [20]) (H := Lw.hk) (ob := Lw.ob) (M := 4000) (loose := Lw.hloose) (d := HandSHeadRun.topDef (OpenLaw.row PySem.Challenge.rw_doppelganger_k88_commands_read).prog 20) (kwd := []) Lw.ob_eq
    (by kernel_rfl) (fun s => by kernel_rfl) Lw.run (by kernel_rfl) (by kernel_rfl) (by kernel_rfl) (by rfl) (by first | assumption | decide +kernel) (by decide +kernel) ⟨rfl, rfl, rfl, rfl, rfl, by decide +kernel⟩ ?hw ?hc
  case hw => w_witness2
  case hc =>
    refine Dg.walk_dg (l := PySem.Challenge.rw_doppelganger_k88_commands_read) (n := 63) (k := 190 + 40) (x := "script") (CX := fun w => L2.CX (PySem.Challenge.rw_doppelganger_k88_commands_read).prog w) rfl (by decide) (by kernel_rfl) ⟨rfl, by decide, by decide⟩ (fun w H s e s2 z => Dg.cx_none H s e s2 z) ?F
    intro w mg fa h Y G hmg0
    obtain ⟨K, KX, c⟩ := Y
    have hmg : mg ("law" : PySem.Str) = some (.ref fa) := by
      have e : (HandSHeadRun.topDef (OpenLaw.row PySem.Challenge.rw_doppelganger_k88_commands_read).prog 20).name = ("law" : PySem.Str) := by kernel_rfl
      rw [← e]
      exact hmg0
    obtain ⟨fd, Fx⟩ := Lw.facts (w := w) KX G c
    have ea := hmg.symm.trans Fx.m12
    cases ea
    exact ⟨K, fd 12, Dg.spF K mg 1 (Lw.call 190 12), KX, fun s v => L2.FunD.bindsA (ps := ["script"]) Fx.F12 (fun _ _ _ _ _ _ us hl => match us, hl with | [_], _ => rfl) s [v] rfl, fun H a ns hl ho hS => Dg.end_of (Lw.law_true ns hl) ho hS, fun base _ _ => (Lw.tab Fx 190).G12⟩

