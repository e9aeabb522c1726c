import PyProof.Rows.All
import Wide.All
import OpenK.AllK
import Wide.FinOn
import HandS.CallLocal
import HandS.Conv
import HandS.Deep
import HandS.Defaults
import HandS.DictComp
import HandS.DictTup
import HandS.Exc
import HandS.ExcIs
import HandS.ExcOwn
import HandS.FStr
import HandS.Flow
import HandS.ForMost
import HandS.Head0
import HandS.Head1
import HandS.Head2
import HandS.HeadEnd
import HandS.HeadHook1
import HandS.HeadHook2
import HandS.HeadHook3
import HandS.IsInst
import HandS.Iter
import HandS.More
import HandS.RaiseMore
import HandS.Rev
import HandS.RevRange
import HandS.SetBool
import HandS.SetKeys
import HandS.SortInts
import HandS.SortRule
import HandS.Star
import HandS.StrSplit
import HandS.Strs
import HandS.Style
import HandS.Text
import HandS.TryMany
import HandS.TryOnly
import HandS.TupAny
import HandS.TupMul
import HandS.TupSets
import HandS.WordsDict
import HandS.WordsExc
import HandS.Zip
import KE.DatumOrd
import KE.GoesEnum
import KE.GoesMore
import KE.KDictDisplayH
import KE.KItemsList
import KE.KStateDown
import Lean
import PyProof.CollectIter
import PyProof.DelItemList
import PyProof.DictUpdate
import PyProof.ExcBaseAll.ValueError
import PyProof.RulesDelMore
import PyProof.SliceList
import PySem.Challenge.RW_doppelganger_k27_least_machines
set_option Elab.async false
set_option linter.all false
set_option maxRecDepth 100000
set_option maxHeartbeats 0
/-! Dg0: rules that the hand layer lacks: tuples: + with an empty one first, * by any number. -/
namespace Dg
open PySem PySem.Spec PyProof.Rows L2
theorem tuple_addW0 (l b : Addr) (items items2 : Array Value) (n n2 : Nat) (dd dd2 : Option Addr) (sl sl2 : Array (Option Value)) (hc0 : items.isEmpty = true) :
    Meets (Builtin.«tuple.__add__» ⟨[.ref l, .ref b], []⟩) (fun _ R s => s.heap.get? l = some { cls := .type "tuple", dict := dd, data := .seq items n, slots := sl } ∧ s.heap.get? b = some { cls := .type "tuple", dict := dd2, data := .seq items2 n2, slots := sl2 } ∧ R (.ok (.ret (Value.ref b))) s) :=
  .of_wp fun prog w A R s h => by
    obtain ⟨hp, g, d, tk, os⟩ := s
    obtain ⟨hl, hb, h⟩ := h
    have f1 := AutoSeq1.idx_int; have f2 := AutoSeq1.sub_tuple_tuple; have f3 := AutoSeq1.sub_list_list; have f4 := AutoSeq1.sub_tuple_list; have f5 := AutoSeq1.sub_list_tuple
    wp_walk using wpAny_loadPart' hl, wpAny_loadPart' hb
    exact ⟨_, rfl, h⟩
theorem tuple_mulW1 (l : Addr) (items : Array Value) (n : Nat) (dd : Option Addr) (sl : Array (Option Value)) (x : Int) (u : Tok) (c0 : (decide (x < -(2 ^ 63)) || decide (x ≥ 2 ^ 63)) = false) (c1 : (items.isEmpty || x == 1) = true) :
    Meets (Builtin.«tuple.__mul__» ⟨[.ref l, .int x u], []⟩) (fun _ R s => s.heap.get? l = some { cls := .type "tuple", dict := dd, data := .seq items n, slots := sl } ∧ R (.ok (.ret (Value.ref l))) s) :=
  .of_wp fun prog w A R s h => by
    obtain ⟨hp, g, d, tk, os⟩ := s
    obtain ⟨hl, h⟩ := h
    have f1 := AutoSeq1.idx_int
    wp_walk using wpAny_loadPart' hl
    repeat (first
      | (refine wpAny_ite_false (decide_eq_false (by rw [c0]; exact Bool.false_ne_true)) ?_; wp_walk using wpAny_loadPart' hl)
      | (refine wpAny_ite_true c1 ?_; wp_walk using wpAny_loadPart' hl))
    exact ⟨_, rfl, h⟩
theorem tuple_mulW0 (l : Addr) (items : Array Value) (n : Nat) (dd : Option Addr) (sl : Array (Option Value)) (x : Int) (u : Tok) (c0 : (decide (x < -(2 ^ 63)) || decide (x ≥ 2 ^ 63)) = false) (c1 : (items.isEmpty || x == 1) = false) (c2 : (decide (x ≤ 0) || items.isEmpty) = true) :
    Meets (Builtin.«tuple.__mul__» ⟨[.ref l, .int x u], []⟩) (fun _ R s => s.heap.get? l = some { cls := .type "tuple", dict := dd, data := .seq items n, slots := sl } ∧
      R (.ok (.ret (Value.ref s.heap.objs.size))) { s with heap := s.heap.push { cls := Value.type "tuple", data := Data.seq #[] }, toks := s.toks }) :=
  .of_wp fun prog w A R s h => by
    obtain ⟨hp, g, d, tk, os⟩ := s
    obtain ⟨hl, h⟩ := h
    have f1 := AutoSeq1.idx_int
    wp_walk using wpAny_loadPart' hl
    repeat (first
      | (refine wpAny_ite_false (decide_eq_false (by rw [c0]; exact Bool.false_ne_true)) ?_; wp_walk using wpAny_loadPart' hl)
      | (refine wpAny_ite_false (decide_eq_false (by rw [c1]; exact Bool.false_ne_true)) ?_; wp_walk using wpAny_loadPart' hl)
      | (refine wpAny_ite_true c2 ?_; wp_walk using wpAny_loadPart' hl))
    exact ⟨_, rfl, h⟩
section
variable {X : Cx}
theorem op_cat0 : OpR X (binaryOp .Add) (fun x y H Q => ∃ a b ys, x = .ref a ∧ y = .ref b ∧ SqT X.K H a [] ∧ SqT X.K H b ys ∧ Q (.ref b) H) := by
  intro pins s σ H x y v u Q I rx ry h
  obtain ⟨a, b, ys, rfl, rfl, ha, hb, q⟩ := h
  cases rx
  cases ry
  obtain ⟨its, r1, ⟨⟨cls, dd, data, sl⟩, ho, hc, n, hd⟩, _⟩ := I.tuple ha
  obtain ⟨its2, r2, ⟨⟨cls2, dd2, data2, sl2⟩, ho2, hc2, n2, hd2⟩, _⟩ := I.tuple hb
  simp only at hc hd hc2 hd2
  subst hc hd hc2 hd2
  cases r1
  exact concat_meets ⟨_, ho, rfl⟩ ⟨_, ho2, rfl⟩ noFill_tuple_add seq_tuple_add PySem.F.slot_tuple_add PySem.F.entry_tuple_add (PySem.F.args_tuple_add_2 _ _)
    (tuple_addW0 a b _ _ n n2 dd dd2 sl sl2 rfl) ⟨ho, ho2, ⟨.ref b, H, I, rfl, q⟩⟩
theorem op_repT1 : OpR X (binaryOp .Mult) (fun x y H Q => ∃ l k xs, x = .ref l ∧ y = .int k ∧ SqT X.K H l xs ∧ (xs = [] ∨ k = 1) ∧ -(2 ^ 62) ≤ k ∧ k < 2 ^ 62 ∧ Q (.ref l) H) := by
  intro pins s σ H x y v u Q I rx ry h
  obtain ⟨l, k, xs, rfl, rfl, hT, hne, h1, h2, q⟩ := h
  cases rx
  obtain ⟨t, rfl⟩ := ry
  obtain ⟨its, r, ⟨⟨cls, dd, data, sl⟩, ho, hc, n, hd⟩, hs⟩ := I.tuple hT
  simp only at hc hd
  subst hc hd
  have c0 : (decide (k < -(2 ^ 63)) || decide (k ≥ 2 ^ 63)) = false := by
    rw [decide_eq_false (by omega), decide_eq_false (by omega)] <;> rfl
  have c1 : (its.toArray.isEmpty || k == 1) = true := by
    rcases hne with e | e
    · subst e; cases r; rfl
    · subst e; simp
  exact wpAny_binaryOp_repeat_ref (T := "tuple") (U := "int") (by decide) ⟨_, ho, rfl⟩ (fun s' => typeIs_int s' k t) noFill_tuple_mul F.fills_int_mul F.slot_int_rmul repeat_tuple F.slot_int_index.lookup
    (call_meets F.slot_int_rmul (typeIs_int s k t) F.entry_int_rmul (F.args_int_rmul_2 _ _) (int_rmul_tuple k t l its.toArray n dd sl)
      ⟨ho, rfl, ⟨_, ho, rfl⟩, call_meets F.slot_tuple_mul ⟨_, ho, rfl⟩ F.entry_tuple_mul (F.args_tuple_mul_2 _ _) (tuple_mulW1 l its.toArray n dd sl k t c0 c1) ⟨ho, ⟨.ref l, H, I, rfl, q⟩⟩⟩)
theorem op_repT0 : OpR X (binaryOp .Mult) (fun x y H Q => ∃ l k xs, x = .ref l ∧ y = .int k ∧ SqT X.K H l xs ∧ xs ≠ [] ∧ -(2 ^ 62) ≤ k ∧ k ≤ 0 ∧ ∀ p, H p = none → Q (.ref p) (upd H p (.tup []))) := by
  intro pins s σ H x y v u Q I rx ry h
  obtain ⟨l, k, xs, rfl, rfl, hT, hne, h1, h2, q⟩ := h
  cases rx
  obtain ⟨t, rfl⟩ := ry
  obtain ⟨its, r, ⟨⟨cls, dd, data, sl⟩, ho, hc, n, hd⟩, hs⟩ := I.tuple hT
  simp only at hc hd
  subst hc hd
  have hn : its ≠ [] := fun e => hne (by
    have := r.length
    rw [e] at this
    exact List.eq_nil_of_length_eq_zero this)
  have c0 : (decide (k < -(2 ^ 63)) || decide (k ≥ 2 ^ 63)) = false := by
    rw [decide_eq_false (by omega), decide_eq_false (by omega)] <;> rfl
  have hi : its.toArray.isEmpty = false := by
    cases its with
    | nil => exact absurd rfl hn
    | cons a b => rfl
  have c1 : (its.toArray.isEmpty || k == 1) = false := by
    rw [hi, Bool.false_or]
    exact beq_eq_false_iff_ne.mpr (by omega)
  have c2 : (decide (k ≤ 0) || its.toArray.isEmpty) = true := by
    rw [decide_eq_true h2]; rfl
  exact wpAny_binaryOp_repeat_ref (T := "tuple") (U := "int") (by decide) ⟨_, ho, rfl⟩ (fun s' => typeIs_int s' k t) noFill_tuple_mul F.fills_int_mul F.slot_int_rmul repeat_tuple F.slot_int_index.lookup
    (call_meets F.slot_int_rmul (typeIs_int s k t) F.entry_int_rmul (F.args_int_rmul_2 _ _) (int_rmul_tuple k t l its.toArray n dd sl)
      ⟨ho, rfl, ⟨_, ho, rfl⟩, call_meets F.slot_tuple_mul ⟨_, ho, rfl⟩ F.entry_tuple_mul (F.args_tuple_mul_2 _ _) (tuple_mulW0 l its.toArray n dd sl k t c0 c1 c2)
        ⟨ho, ⟨.ref s.heap.objs.size, _, I.laid (t' := s.toks) (o := .tup []) (fun b ob q => Heap.get?_push_of_some _ q) (Nat.le_refl _) ⟨by simp, [], .nil, IsTup.new _ _⟩, rfl, q _ (I.hok.fresh (Nat.le_refl _))⟩⟩⟩)
end
end Dg
/-! Dg1: values, cells, how they lie in the heap, and outcomes. -/
namespace Dg
open PySem PySem.Spec PyProof.Rows L2
/-! ### values and memory of the mirror -/
inductive U where
  | non | bl (b : Bool) | int (i : Int) | str (s : Str) | tup (xs : List U) | ref (i : Nat)
  /-- a list that is never changed (the script) -/
  | frl (xs : List U)
inductive Cell where
  | lst (xs : List U)
  | dct (kvs : List (Key × U))
  /-- a dict that is being walked -/
  | fdc (kvs : List (Key × U))
  /-- a dict whose keys are tuples of ints -/
  | dtt (kvs : List (List Int × U))
  /-- one whose keys are tuples of ints, while it is walked -/
  | fdt (kvs : List (List Int × U))
  /-- a dict whose keys are pairs of a tuple of ints and an int (the key as the ints one after another) -/
  | dnt (kvs : List (List Int × U))
  /-- an instance of the class: its attributes -/
  | obj (c : Str) (fs : List (Str × U))
abbrev Mem := List Cell
abbrev Slots := List (Option U)
inductive Res (α : Type) where
  | ok (a : α) (m : Mem)
  | ex (c : Str) (m : Mem)
  | bad
def Res.bind {α β : Type} (r : Res α) (k : α → Mem → Res β) : Res β := match r with
  | .ok a m => k a m
  | .ex c m => .ex c m
  | .bad => .bad
inductive Out where
  | nx (s : Slots) (m : Mem)
  | rt (u : U) (m : Mem)
  | bk (s : Slots) (m : Mem)
  | ct (s : Slots) (m : Mem)
  | ex (c : Str) (s : Slots) (m : Mem)
  | bad
abbrev FE := Slots → Mem → Res U
abbrev FT := Slots → Mem → Res Bool
abbrev FA := Slots → Mem → Res (List U)
abbrev FS := Slots → Mem → Out
/-! ### how a value lies -/
/-- a list that stays as it is -/
def FrL (K : PySem.W.Frag) (H : Hp) (a : Addr) (xs : List V) : Prop :=
  (∃ o, H a = some (.frz o (.lst xs))) ∨
    ∃ (o : Obj) (its : Array Value) (n : Nat), K.lookup a = some o ∧ o.cls = .type "list" ∧ o.dict = none ∧ o.data = .seq its n ∧ its.size ≤ sizeLine ∧ Vals xs its.toList
theorem FrL.sq {K : PySem.W.Frag} {H : Hp} {a : Addr} {xs : List V} (h : FrL K H a xs) : SqL K H a xs := by
  rcases h with ⟨o, h⟩ | h
  · exact .inl (.inr ⟨o, h⟩)
  · exact .inr h
mutual
inductive RepV (K : PySem.W.Frag) (H : Hp) (ρ : List Addr) : U → V → Prop
  | non : RepV K H ρ .non .non
  | bl {b : Bool} : RepV K H ρ (.bl b) (.bl b)
  | int {i : Int} : RepV K H ρ (.int i) (.int i)
  | str {s : Str} : PyData.strOk s = true → RepV K H ρ (.str s) (.str s)
  | tup {us : List U} {a : Addr} {vs : List V} : SqT K H a vs → RepVs K H ρ us vs → RepV K H ρ (.tup us) (.ref a)
  | ref {i : Nat} {a : Addr} : ρ[i]? = some a → RepV K H ρ (.ref i) (.ref a)
  | frl {us : List U} {a : Addr} {vs : List V} : FrL K H a vs → RepVs K H ρ us vs → RepV K H ρ (.frl us) (.ref a)
inductive RepVs (K : PySem.W.Frag) (H : Hp) (ρ : List Addr) : List U → List V → Prop
  | nil : RepVs K H ρ [] []
  | cons {u : U} {us : List U} {v : V} {vs : List V} : RepV K H ρ u v → RepVs K H ρ us vs → RepVs K H ρ (u :: us) (v :: vs)
end
/-- tuples and what is locked stay -/
def TX (H H' : Hp) : Prop := (∀ a xs, Rd H a (.tup xs) → Rd H' a (.tup xs)) ∧ ∀ a o u, H a = some (.frz o u) → H' a = some (.frz o u)
theorem TX.refl (H : Hp) : TX H H := ⟨fun _ _ h => h, fun _ _ _ h => h⟩
theorem TX.trans {H H1 H2 : Hp} (a : TX H H1) (b : TX H1 H2) : TX H H2 := ⟨fun x o h => b.1 x o (a.1 x o h), fun x o u h => b.2 x o u (a.2 x o u h)⟩
/-- what may be changed: no tuple, nothing locked -/
def Sft (o : HO) : Prop := (∀ xs, o ≠ .tup xs) ∧ ∀ z u, o ≠ .frz z u
theorem TX.put {H : Hp} {p : Addr} {o : HO} (h : ∀ o', H p = some o' → Sft o') : TX H (upd H p o) := ⟨fun a xs r => by
  rcases r with r | ⟨z, r⟩
  · have ne : a ≠ p := fun e => (h _ (e ▸ r)).1 xs rfl
    exact .inl (by rw [upd_ne ne]; exact r)
  · have ne : a ≠ p := fun e => (h _ (e ▸ r)).2 z _ rfl
    exact .inr ⟨z, by rw [upd_ne ne]; exact r⟩, fun a z u r => by
  have ne : a ≠ p := fun e => (h _ (e ▸ r)).2 z u rfl
  rw [upd_ne ne]; exact r⟩
theorem TX.new {H : Hp} {p : Addr} {o : HO} (h : H p = none) : TX H (upd H p o) := TX.put (fun o' r => by rw [h] at r; cases r)
/-- tuples and locked lists stay: what values need -/
def TV (H H' : Hp) : Prop := (∀ a xs, Rd H a (.tup xs) → Rd H' a (.tup xs)) ∧ ∀ a o xs, H a = some (.frz o (.lst xs)) → H' a = some (.frz o (.lst xs))
theorem TX.tv {H H' : Hp} (t : TX H H') : TV H H' := ⟨t.1, fun a o xs h => t.2 a o _ h⟩
theorem TV.seq {K : PySem.W.Frag} {H H' : Hp} {a : Addr} {xs : List V} (t : TV H H') (h : SqT K H a xs) : SqT K H' a xs := by
  rcases h with h | h
  · exact .inl (t.1 a xs h)
  · exact .inr h
theorem TV.frl {K : PySem.W.Frag} {H H' : Hp} {a : Addr} {xs : List V} (t : TV H H') (h : FrL K H a xs) : FrL K H' a xs := by
  rcases h with ⟨o, h⟩ | h
  · exact .inl ⟨o, t.2 a o _ h⟩
  · exact .inr h
theorem TX.seq {K : PySem.W.Frag} {H H' : Hp} {a : Addr} {xs : List V} (t : TX H H') (h : SqT K H a xs) : SqT K H' a xs := by
  rcases h with h | h
  · exact .inl (t.1 a xs h)
  · exact .inr h
theorem TX.frl {K : PySem.W.Frag} {H H' : Hp} {a : Addr} {xs : List V} (t : TX H H') (h : FrL K H a xs) : FrL K H' a xs := by
  rcases h with ⟨o, h⟩ | h
  · exact .inl ⟨o, t.2 a o _ h⟩
  · exact .inr h
def Ext (ρ ρ' : List Addr) : Prop := ∃ l, ρ' = ρ ++ l
theorem Ext.refl (ρ : List Addr) : Ext ρ ρ := ⟨[], by simp⟩
theorem Ext.trans {a b c : List Addr} (h : Ext a b) (g : Ext b c) : Ext a c := by
  obtain ⟨l, rfl⟩ := h
  obtain ⟨r, rfl⟩ := g
  exact ⟨l ++ r, by simp⟩
theorem Ext.get {ρ ρ' : List Addr} (h : Ext ρ ρ') {i : Nat} {a : Addr} (e : ρ[i]? = some a) : ρ'[i]? = some a := by
  obtain ⟨l, rfl⟩ := h
  have : i < ρ.length := by
    rw [List.getElem?_eq_some_iff] at e
    exact e.1
  rw [List.getElem?_append_left this]
  exact e
theorem Ext.snoc (ρ : List Addr) (p : Addr) : Ext ρ (ρ ++ [p]) := ⟨[p], rfl⟩
section
variable {K : PySem.W.Frag} {H H' : Hp} {ρ ρ' : List Addr}
mutual
theorem RepV.monoV (t : TV H H') (e : Ext ρ ρ') : ∀ {u : U} {v : V}, RepV K H ρ u v → RepV K H' ρ' u v
  | _, _, .non => .non
  | _, _, .bl => .bl
  | _, _, .int => .int
  | _, _, .str h => .str h
  | _, _, .tup h r => .tup (t.seq h) (RepVs.monoV t e r)
  | _, _, .ref h => .ref (e.get h)
  | _, _, .frl h r => .frl (t.frl h) (RepVs.monoV t e r)
theorem RepVs.monoV (t : TV H H') (e : Ext ρ ρ') : ∀ {us : List U} {vs : List V}, RepVs K H ρ us vs → RepVs K H' ρ' us vs
  | _, _, .nil => .nil
  | _, _, .cons h r => .cons (RepV.monoV t e h) (RepVs.monoV t e r)
end
theorem RepV.mono (t : TX H H') (e : Ext ρ ρ') {u : U} {v : V} (h : RepV K H ρ u v) : RepV K H' ρ' u v := h.monoV t.tv e
theorem RepVs.mono (t : TX H H') (e : Ext ρ ρ') {us : List U} {vs : List V} (h : RepVs K H ρ us vs) : RepVs K H' ρ' us vs := h.monoV t.tv e
theorem RepVs.length : ∀ {us : List U} {vs : List V}, RepVs K H ρ us vs → us.length = vs.length
  | _, _, .nil => rfl
  | _, _, .cons _ r => congrArg (· + 1) (RepVs.length r)
theorem RepVs.get : ∀ {us : List U} {vs : List V} {i : Nat} {u : U}, RepVs K H ρ us vs → us[i]? = some u → ∃ v, vs[i]? = some v ∧ RepV K H ρ u v
  | _, _, _, _, .nil, e => by simp at e
  | _, _, 0, _, .cons h _, e => by simp at e; subst e; exact ⟨_, rfl, h⟩
  | _, _, i + 1, u, .cons _ r, e => by
    obtain ⟨v, h1, h2⟩ := RepVs.get (i := i) (u := u) r (by simpa using e)
    exact ⟨v, by simpa using h1, h2⟩
theorem RepVs.append : ∀ {us ws : List U} {vs xs : List V}, RepVs K H ρ us vs → RepVs K H ρ ws xs → RepVs K H ρ (us ++ ws) (vs ++ xs)
  | _, _, _, _, .nil, s => s
  | _, _, _, _, .cons h r, s => .cons h (RepVs.append r s)
theorem RepVs.set {u : U} {v : V} (h : RepV K H ρ u v) : ∀ {us : List U} {vs : List V} (i : Nat), RepVs K H ρ us vs → RepVs K H ρ (us.set i u) (vs.set i v)
  | _, _, _, .nil => .nil
  | _, _, 0, .cons _ r => .cons h r
  | _, _, i + 1, .cons q r => .cons q (RepVs.set h i r)
theorem RepVs.take : ∀ {us : List U} {vs : List V} (n : Nat), RepVs K H ρ us vs → RepVs K H ρ (us.take n) (vs.take n)
  | _, _, 0, _ => .nil
  | _, _, _ + 1, .nil => .nil
  | _, _, n + 1, .cons h r => .cons h (RepVs.take n r)
theorem RepVs.drop : ∀ {us : List U} {vs : List V} (n : Nat), RepVs K H ρ us vs → RepVs K H ρ (us.drop n) (vs.drop n)
  | _, _, 0, r => r
  | _, _, _ + 1, .nil => .nil
  | _, _, n + 1, .cons _ r => RepVs.drop n r
theorem RepVs.one {u : U} {v : V} (h : RepV K H ρ u v) : RepVs K H ρ [u] [v] := .cons h .nil
theorem RepVs.reverse {us : List U} {vs : List V} (r : RepVs K H ρ us vs) : RepVs K H ρ us.reverse vs.reverse := by
  induction us generalizing vs with
  | nil => cases r; exact .nil
  | cons u us ih =>
    cases r with
    | cons h r => rw [List.reverse_cons, List.reverse_cons]; exact (ih r).append (.one h)
theorem RepVs.ints : ∀ {is : List Int} {vs : List V}, RepVs K H ρ (is.map U.int) vs → vs = is.map V.int
  | [], _, r => by cases r; rfl
  | i :: is, _, r => by
    cases r with
    | cons h r => cases h; rw [RepVs.ints r]; rfl
theorem RepVs.ofInts : ∀ (is : List Int), RepVs K H ρ (is.map U.int) (is.map V.int)
  | [] => .nil
  | _ :: is => .cons .int (RepVs.ofInts is)
theorem RepVs.bls : ∀ {is : List Bool} {vs : List V}, RepVs K H ρ (is.map U.bl) vs → vs = is.map V.bl
  | [], _, r => by cases r; rfl
  | i :: is, _, r => by
    cases r with
    | cons h r => cases h; rw [RepVs.bls r]; rfl
end
theorem nodup_inj {α : Type} {l : List α} (h : l.Nodup) {i j : Nat} (hi : i < l.length) (hj : j < l.length) (e : l[i] = l[j]) : i = j := by
  have p := List.pairwise_iff_getElem.mp h
  rcases Nat.lt_trichotomy i j with q | q | q
  · exact absurd e (p i j hi hj q)
  · exact q
  · exact absurd e.symm (p j i hj hi q)
/-- a dict at a whose keys are tuples of ints: each key, where it stands, the value -/
def tiE (x : List Int × Addr × Value) : DictEntry := ⟨reduceHash (Builtin.Tuple.tupleHashOf (x.1.map hashInt)), .ref x.2.1, x.2.2⟩
def TiRaw (a : Addr) (xs : List (List Int × Addr × V)) (h : Heap) : Prop := (a == sysModules) = false ∧ xs.length ≤ sizeLine ∧ (xs.map (·.1)).Nodup ∧ ∃ ys : List (List Int × Addr × Value),
  Paired (fun p q => p.1 = q.1 ∧ p.2.1 = q.2.1 ∧ RelV p.2.2 q.2.2) xs ys ∧ ∃ o es ep, h.get? a = some o ∧ o.ExactDict ∧ o.data = .dict es ep ∧ es.toList = ys.map tiE
def TiD (a : Addr) (xs : List (List Int × Addr × V)) : HO := .ext (TiRaw a xs)
theorem TiRaw.ok {P : Program} {w : World} {H : Hp} {h : Heap} {a : Addr} {xs : List (List Int × Addr × V)} (r : TiRaw a xs h) : ObjOk P w H h a (TiD a xs) := by
  refine ⟨r, ?_, fun h1 h2 r1 k => ?_⟩
  · obtain ⟨_, _, _, ys, _, o, es, ep, e, _⟩ := r
    exact ⟨o, e⟩
  · obtain ⟨q, z, n, ys, p, o, es, ep, e, c⟩ := r1
    exact ⟨q, z, n, ys, p, o, es, ep, k o e, c⟩
/-- the same, the keys pairs of a tuple of ints and an int -/
def nHash (k : List Int) : Int := reduceHash (Builtin.Tuple.tupleHashOf [reduceHash (Builtin.Tuple.tupleHashOf (k.dropLast.map hashInt)), hashInt (k.getLastD 0)])
def tnE (x : List Int × Addr × Value) : DictEntry := ⟨nHash x.1, .ref x.2.1, x.2.2⟩
def TnRaw (a : Addr) (xs : List (List Int × Addr × V)) (h : Heap) : Prop := (a == sysModules) = false ∧ xs.length ≤ sizeLine ∧ (xs.map (·.1)).Nodup ∧ ∃ ys : List (List Int × Addr × Value),
  Paired (fun p q => p.1 = q.1 ∧ p.2.1 = q.2.1 ∧ RelV p.2.2 q.2.2) xs ys ∧ ∃ o es ep, h.get? a = some o ∧ o.ExactDict ∧ o.data = .dict es ep ∧ es.toList = ys.map tnE
def TnD (a : Addr) (xs : List (List Int × Addr × V)) : HO := .ext (TnRaw a xs)
theorem TnRaw.ok {P : Program} {w : World} {H : Hp} {h : Heap} {a : Addr} {xs : List (List Int × Addr × V)} (r : TnRaw a xs h) : ObjOk P w H h a (TnD a xs) := by
  refine ⟨r, ?_, fun h1 h2 r1 k => ?_⟩
  · obtain ⟨_, _, _, ys, _, o, es, ep, e, _⟩ := r
    exact ⟨o, e⟩
  · obtain ⟨q, z, n, ys, p, o, es, ep, e, c⟩ := r1
    exact ⟨q, z, n, ys, p, o, es, ep, k o e, c⟩
/-- at b stands the pair of a tuple of ints and an int -/
def NyT (K : PySem.W.Frag) (H : Hp) (b : Addr) (k : List Int) : Prop := ∃ ks i c, k = ks ++ [i] ∧ SqT K H b [V.ref c, V.int i] ∧ SqT K H c (ks.map V.int)
theorem NyT.tv {K : PySem.W.Frag} {H H' : Hp} {b : Addr} {k : List Int} (t : TV H H') (h : NyT K H b k) : NyT K H' b k := by
  obtain ⟨ks, i, c, e, h1, h2⟩ := h
  exact ⟨ks, i, c, e, t.seq h1, t.seq h2⟩
/-! ### how the memory lies -/
def RepC (K : PySem.W.Frag) (H : Hp) (ρ : List Addr) : Cell → Addr → Prop
  | .lst us, a => ∃ vs, H a = some (.lst vs) ∧ RepVs K H ρ us vs
  | .dct kus, a => ∃ kvs, H a = some (.dK kvs) ∧ kvs.map (·.1) = kus.map (·.1) ∧ RepVs K H ρ (kus.map (·.2)) (kvs.map (·.2))
  | .fdc kus, a => ∃ o kvs, H a = some (.frz o (.dK kvs)) ∧ kvs.map (·.1) = kus.map (·.1) ∧ RepVs K H ρ (kus.map (·.2)) (kvs.map (·.2))
  | .dtt kus, a => ∃ xs, H a = some (TiD a xs) ∧ (∀ p ∈ xs, SqT K H p.2.1 (p.1.map V.int)) ∧ xs.map (·.1) = kus.map (·.1) ∧ RepVs K H ρ (kus.map (·.2)) (xs.map (·.2.2))
  | .fdt kus, a => ∃ o xs, H a = some (.frz o (TiD a xs)) ∧ (∀ p ∈ xs, SqT K H p.2.1 (p.1.map V.int)) ∧ xs.map (·.1) = kus.map (·.1) ∧ RepVs K H ρ (kus.map (·.2)) (xs.map (·.2.2))
  | .dnt kus, a => ∃ xs, H a = some (TnD a xs) ∧ (∀ p ∈ xs, NyT K H p.2.1 p.1) ∧ xs.map (·.1) = kus.map (·.1) ∧ RepVs K H ρ (kus.map (·.2)) (xs.map (·.2.2))
  | .obj c fs, a => ∃ dx fvs, H a = some (.ins (He.ga K c) dx fvs) ∧ fvs.map (·.1) = fs.map (·.1) ∧ RepVs K H ρ (fs.map (·.2)) (fvs.map (·.2))
structure RepM (K : PySem.W.Frag) (H : Hp) (ρ : List Addr) (μ : Mem) : Prop where
  len : ρ.length = μ.length
  nd : ρ.Nodup
  cell : ∀ (i : Nat) (c : Cell), μ[i]? = some c → ∃ a, ρ[i]? = some a ∧ RepC K H ρ c a
section
variable {K : PySem.W.Frag} {H H' : Hp} {ρ ρ' : List Addr} {μ : Mem}
def Cell.soft : Cell → Bool
  | .fdc _ => false
  | .fdt _ => false
  | _ => true
theorem RepC.there {c : Cell} {a : Addr} (h : RepC K H ρ c a) : ∃ o, H a = some o ∧ (c.soft = true → Sft o) := by
  cases c with
  | lst us => obtain ⟨vs, e, _⟩ := h; exact ⟨_, e, by simp [Sft]⟩
  | dct us => obtain ⟨vs, e, _⟩ := h; exact ⟨_, e, by simp [Sft]⟩
  | fdc us => obtain ⟨o, vs, e, _⟩ := h; exact ⟨_, e, fun h => nomatch h⟩
  | dtt us => obtain ⟨vs, e, _⟩ := h; exact ⟨_, e, by simp [Sft, TiD]⟩
  | fdt us => obtain ⟨o, vs, e, _⟩ := h; exact ⟨_, e, fun h => nomatch h⟩
  | dnt us => obtain ⟨vs, e, _⟩ := h; exact ⟨_, e, by simp [Sft, TnD]⟩
  | obj c us => obtain ⟨o, vs, e, _⟩ := h; exact ⟨_, e, by simp [Sft]⟩
theorem RepC.tx {c : Cell} {a : Addr} {o' : HO} (h : RepC K H ρ c a) (hs : c.soft = true) : TX H (upd H a o') := by
  obtain ⟨o, e, h1⟩ := h.there
  exact TX.put fun o2 r => by rw [e] at r; cases r; exact h1 hs
theorem RepC.monoV {c : Cell} {a : Addr} (t : TV H H') (x : Ext ρ ρ') (e : H' a = H a) (h : RepC K H ρ c a) : RepC K H' ρ' c a := by
  cases c with
  | lst us => obtain ⟨vs, q, r⟩ := h; exact ⟨vs, e.trans q, r.monoV t x⟩
  | dct us => obtain ⟨vs, q, w, r⟩ := h; exact ⟨vs, e.trans q, w, r.monoV t x⟩
  | fdc us => obtain ⟨o, vs, q, w, r⟩ := h; exact ⟨o, vs, e.trans q, w, r.monoV t x⟩
  | dtt us => obtain ⟨vs, q, z, w, r⟩ := h; exact ⟨vs, e.trans q, fun p hp => t.seq (z p hp), w, r.monoV t x⟩
  | fdt us => obtain ⟨o, vs, q, z, w, r⟩ := h; exact ⟨o, vs, e.trans q, fun p hp => t.seq (z p hp), w, r.monoV t x⟩
  | dnt us => obtain ⟨vs, q, z, w, r⟩ := h; exact ⟨vs, e.trans q, fun p hp => (z p hp).tv t, w, r.monoV t x⟩
  | obj c us => obtain ⟨o, vs, q, w, r⟩ := h; exact ⟨o, vs, e.trans q, w, r.monoV t x⟩
theorem RepC.mono {c : Cell} {a : Addr} (t : TX H H') (x : Ext ρ ρ') (e : H' a = H a) (h : RepC K H ρ c a) : RepC K H' ρ' c a := h.monoV t.tv x e
theorem RepM.at (m : RepM K H ρ μ) {i : Nat} {a : Addr} (e : ρ[i]? = some a) : ∃ c, μ[i]? = some c ∧ RepC K H ρ c a := by
  have hi : i < ρ.length := (List.getElem?_eq_some_iff.mp e).1
  have hj : i < μ.length := m.len ▸ hi
  obtain ⟨a', e', r⟩ := m.cell i _ (List.getElem?_eq_getElem hj)
  rw [e] at e'; cases e'
  exact ⟨_, List.getElem?_eq_getElem hj, r⟩
theorem RepM.get (m : RepM K H ρ μ) {i : Nat} {a : Addr} {c : Cell} (e : ρ[i]? = some a) (h : μ[i]? = some c) : RepC K H ρ c a := by
  obtain ⟨a', e', r⟩ := m.cell i c h
  rw [e] at e'; cases e'
  exact r
theorem RepM.lst (m : RepM K H ρ μ) {i : Nat} {a : Addr} {us : List U} (e : ρ[i]? = some a) (h : μ[i]? = some (.lst us)) : ∃ vs, H a = some (.lst vs) ∧ RepVs K H ρ us vs := m.get e h
theorem RepM.here (m : RepM K H ρ μ) {a : Addr} (h : a ∈ ρ) : H a ≠ none := by
  obtain ⟨i, hi, e⟩ := List.getElem_of_mem h
  obtain ⟨c, _, r⟩ := m.at (i := i) (a := a) (by rw [List.getElem?_eq_getElem hi, e])
  obtain ⟨o, q, _⟩ := r.there
  rw [q]; simp
theorem RepM.notin (m : RepM K H ρ μ) {p : Addr} (h : H p = none) : p ∉ ρ := fun q => m.here q h
/-- the heap has more, the memory is the same -/
theorem RepM.keep (m : RepM K H ρ μ) (t : TX H H') (k : ∀ a ∈ ρ, H' a = H a) : RepM K H' ρ μ := ⟨m.len, m.nd, fun i c h => by
  obtain ⟨a, e, r⟩ := m.cell i c h
  exact ⟨a, e, r.mono t (Ext.refl _) (k a (List.mem_of_getElem? e))⟩⟩
theorem RepM.temp (m : RepM K H ρ μ) {p : Addr} {o : HO} (h : H p = none) : RepM K (upd H p o) ρ μ := m.keep (TX.new h) fun a ha => upd_ne fun e => m.notin h (e ▸ ha)
/-- a new cell -/
theorem RepM.new (m : RepM K H ρ μ) {p : Addr} {o : HO} {c : Cell} (h : H p = none) (r : RepC K (upd H p o) (ρ ++ [p]) c p) : RepM K (upd H p o) (ρ ++ [p]) (μ ++ [c]) := by
  refine ⟨by simp [m.len], ?_, fun i d e => ?_⟩
  · rw [List.nodup_append]
    exact ⟨m.nd, by simp, fun a ha b hb => by simp at hb; subst hb; exact fun e => m.notin h (e ▸ ha)⟩
  · by_cases hi : i < μ.length
    · rw [List.getElem?_append_left hi] at e
      obtain ⟨a, e1, r1⟩ := m.cell i d e
      exact ⟨a, (Ext.snoc ρ p).get e1, r1.mono (TX.new h) (Ext.snoc ρ p) (upd_ne fun q => m.notin h (q ▸ List.mem_of_getElem? e1))⟩
    · have hi2 : i = μ.length := by
        have := (List.getElem?_eq_some_iff.mp e).1
        simp at this
        omega
      subst hi2
      rw [List.getElem?_append_right (Nat.le_refl _)] at e
      simp at e
      subst e
      exact ⟨p, by rw [← m.len, List.getElem?_append_right (Nat.le_refl _)]; simp, r⟩
/-- a cell is changed -/
theorem RepM.putV (m : RepM K H ρ μ) {i : Nat} {a : Addr} {o : HO} {c : Cell} (t : TV H (upd H a o)) (e : ρ[i]? = some a) (r : RepC K (upd H a o) ρ c a) : RepM K (upd H a o) ρ (μ.set i c) := by
  obtain ⟨c0, e0, r0⟩ := m.at e
  refine ⟨by simp [m.len], m.nd, fun j d h => ?_⟩
  by_cases hj : i = j
  · subst hj
    rw [List.getElem?_set_self (List.getElem?_eq_some_iff.mp e0).1] at h
    cases h
    exact ⟨a, e, r⟩
  · rw [List.getElem?_set_ne hj] at h
    obtain ⟨b, e1, r1⟩ := m.cell j d h
    refine ⟨b, e1, r1.monoV t (Ext.refl _) (upd_ne fun q => hj ?_)⟩
    subst q
    obtain ⟨h1, h2⟩ := List.getElem?_eq_some_iff.mp e
    obtain ⟨h3, h4⟩ := List.getElem?_eq_some_iff.mp e1
    exact nodup_inj m.nd h1 h3 (h2.trans h4.symm)
end
/-! ### how the slots lie -/
structure RepS (K : PySem.W.Frag) (H : Hp) (ρ : List Addr) (s : Slots) (σ : L2.St) : Prop where
  len : s.length = σ.length
  get : ∀ (i : Nat) (u : U), s[i]? = some (some u) → ∃ v, σ[i]? = some (some v) ∧ RepV K H ρ u v
theorem RepS.mono {K : PySem.W.Frag} {H H' : Hp} {ρ ρ' : List Addr} {s : Slots} {σ : L2.St} (t : TX H H') (x : Ext ρ ρ') (h : RepS K H ρ s σ) : RepS K H' ρ' s σ :=
  ⟨h.len, fun i u e => by obtain ⟨v, q, r⟩ := h.get i u e; exact ⟨v, q, r.mono t x⟩⟩
theorem RepS.set {K : PySem.W.Frag} {H : Hp} {ρ : List Addr} {s : Slots} {σ : L2.St} {i : Nat} {u : U} {v : V} (h : RepS K H ρ s σ) (r : RepV K H ρ u v) : RepS K H ρ (s.set i (some u)) (σ.set i (some v)) := by
  refine ⟨by simp [h.len], fun j w e => ?_⟩
  by_cases hj : i = j
  · subst hj
    have hl : i < s.length := by
      have := (List.getElem?_eq_some_iff.mp e).1
      simpa using this
    rw [List.getElem?_set_self hl] at e
    cases e
    exact ⟨v, List.getElem?_set_self (h.len ▸ hl), r⟩
  · rw [List.getElem?_set_ne hj] at e
    obtain ⟨x, q, r'⟩ := h.get j w e
    exact ⟨x, by rw [List.getElem?_set_ne hj]; exact q, r'⟩
/-! ### a step of the heap -/
structure Stp (K : PySem.W.Frag) (ρ : List Addr) (H : Hp) (ρ' : List Addr) (H' : Hp) (μ' : Mem) : Prop where
  ext : Ext ρ ρ'
  tx : TX H H'
  mem : RepM K H' ρ' μ'
section
variable {K : PySem.W.Frag} {H H1 H2 : Hp} {ρ ρ1 ρ2 : List Addr} {μ μ1 μ2 : Mem}
theorem Stp.refl (m : RepM K H ρ μ) : Stp K ρ H ρ H μ := ⟨Ext.refl _, TX.refl _, m⟩
theorem Stp.trans (a : Stp K ρ H ρ1 H1 μ1) (b : Stp K ρ1 H1 ρ2 H2 μ2) : Stp K ρ H ρ2 H2 μ2 := ⟨a.ext.trans b.ext, a.tx.trans b.tx, b.mem⟩
theorem Stp.temp (m : RepM K H ρ μ) {p : Addr} {o : HO} (h : H p = none) : Stp K ρ H ρ (upd H p o) μ := ⟨Ext.refl _, TX.new h, m.temp h⟩
theorem Stp.new (m : RepM K H ρ μ) {p : Addr} {o : HO} {c : Cell} (h : H p = none) (r : RepC K (upd H p o) (ρ ++ [p]) c p) : Stp K ρ H (ρ ++ [p]) (upd H p o) (μ ++ [c]) := ⟨Ext.snoc ρ p, TX.new h, m.new h r⟩
theorem RepM.put (m : RepM K H ρ μ) {i : Nat} {a : Addr} {o : HO} {c c0 : Cell} (e : ρ[i]? = some a) (h0 : μ[i]? = some c0) (hs : c0.soft = true) (r : RepC K (upd H a o) ρ c a) : RepM K (upd H a o) ρ (μ.set i c) :=
  m.putV ((m.get e h0).tx hs).tv e r
theorem Stp.put (m : RepM K H ρ μ) {i : Nat} {a : Addr} {o : HO} {c c0 : Cell} (e : ρ[i]? = some a) (h0 : μ[i]? = some c0) (hs : c0.soft = true) (r : RepC K (upd H a o) ρ c a) : Stp K ρ H ρ (upd H a o) (μ.set i c) :=
  ⟨Ext.refl _, (m.get e h0).tx hs, m.put e h0 hs r⟩
theorem Stp.v (t : Stp K ρ H ρ1 H1 μ1) {u : U} {v : V} (h : RepV K H ρ u v) : RepV K H1 ρ1 u v := h.mono t.tx t.ext
theorem Stp.vs (t : Stp K ρ H ρ1 H1 μ1) {u : List U} {v : List V} (h : RepVs K H ρ u v) : RepVs K H1 ρ1 u v := h.mono t.tx t.ext
theorem Stp.s (t : Stp K ρ H ρ1 H1 μ1) {u : Slots} {v : L2.St} (h : RepS K H ρ u v) : RepS K H1 ρ1 u v := h.mono t.tx t.ext
end
/-! ### what is wanted behind -/
abbrev RelT (α β : Type) := PySem.W.Frag → Hp → List Addr → α → β → Prop
def relV : RelT U V := RepV
def relVs : RelT (List U) (List V) := RepVs
def relB : RelT Bool Bool := fun _ _ _ a b => a = b
def relO : RelT (Option Int) (Option Int) := fun _ _ _ a b => a = b
def Post {α β : Type} (X : Cx) (W : WX) (σ : L2.St) (rel : RelT α β) (ρ : List Addr) (H : Hp) (r : Res α) (Q : β → Hp → Prop) : Prop := match r with
  | .ok u μ' => ∀ v H' ρ', Stp X.K ρ H ρ' H' μ' → rel X.K H' ρ' u v → Q v H'
  | .ex c μ' => ∀ cls H' ρ', Stp X.K ρ H ρ' H' μ' → X.mg c = some cls → W cls none σ H'
  | .bad => False
theorem Post.bind {α β γ δ : Type} {X : Cx} {W : WX} {σ : L2.St} {rel1 : RelT α β} {rel2 : RelT γ δ} {ρ : List Addr} {H : Hp} {r : Res α} {k : α → Mem → Res γ} {Q : δ → Hp → Prop} {Q1 : β → Hp → Prop}
    (h : Post X W σ rel2 ρ H (r.bind k) Q) (hk : ∀ a μ1 x H1 ρ1, Stp X.K ρ H ρ1 H1 μ1 → rel1 X.K H1 ρ1 a x → Post X W σ rel2 ρ1 H1 (k a μ1) Q → Q1 x H1) : Post X W σ rel1 ρ H r Q1 := by
  cases r with
  | ok a m =>
    intro v H' ρ' t q
    refine hk a m v H' ρ' t q ?_
    have h' : Post X W σ rel2 ρ H (k a m) Q := h
    generalize k a m = z at h'
    cases z with
    | ok b m2 => exact fun v2 H2 ρ2 t2 q2 => h' v2 H2 ρ2 (t.trans t2) q2
    | ex c m2 => exact fun cls H2 ρ2 t2 e => h' cls H2 ρ2 (t.trans t2) e
    | bad => exact h'
  | ex c m => exact h
  | bad => exact h
theorem Post.ok {α β : Type} {X : Cx} {W : WX} {σ : L2.St} {rel : RelT α β} {ρ ρ' : List Addr} {H H' : Hp} {u : α} {v : β} {μ' : Mem} {Q : β → Hp → Prop} (h : Post X W σ rel ρ H (.ok u μ') Q) (t : Stp X.K ρ H ρ' H' μ') (r : rel X.K H' ρ' u v) : Q v H' := h v H' ρ' t r
/-! ### an expression, a test, arguments -/
def WE (X : Cx) (e : Expr) : TE := fun σ H Q => ∃ t, PE X e t ∧ t σ H Q
theorem pe_w {X : Cx} {e : Expr} : PE X e (WE X e) := ⟨fun pins s σ H Q I ⟨_, h, q⟩ => h.run pins s σ H Q I q⟩
def WT (X : Cx) (e : Expr) : TT := fun σ H Q => ∃ t, PT X e t ∧ t σ H Q
theorem pt_w {X : Cx} {e : Expr} : PT X e (WT X e) := ⟨fun pins s σ H Q I ⟨_, h, q⟩ => h.run pins s σ H Q I q⟩
def WA (X : Cx) (es : List Expr) : TA := fun σ H Q => ∃ t, PA X es t ∧ t σ H Q
theorem pa_w {X : Cx} {es : List Expr} : PA X es (WA X es) := ⟨fun pos pins s σ H Q I ⟨_, h, q⟩ => h.run pos pins s σ H Q I q⟩
def OpW (X : Cx) (f : Value → Value → Sem Value) : R2 := fun x y H Q => ∃ r, OpR X f r ∧ r x y H Q
theorem op_w {X : Cx} {f : Value → Value → Sem Value} : OpR X f (OpW X f) := fun pins s σ H x y v u Q I rx ry ⟨_, h, q⟩ => h pins s σ H x y v u Q I rx ry q
def IxW (X : Cx) : R2 := fun x y H Q => ∃ r, IxR X r ∧ r x y H Q
theorem ix_w {X : Cx} : IxR X (IxW X) := fun value slice pins s σ H x y v u Q I rx ry ⟨_, h, q⟩ hs => h value slice pins s σ H x y v u Q I rx ry q hs
def CE (X : Cx) (W : WX) (e : Expr) (m : FE) : Prop := ∀ ρ μ s σ H Q, RepS X.K H ρ s σ → RepM X.K H ρ μ → Post X W σ relV ρ H (m s μ) Q → WE X e σ H Q
def CT (X : Cx) (W : WX) (e : Expr) (m : FT) : Prop := ∀ ρ μ s σ H Q, RepS X.K H ρ s σ → RepM X.K H ρ μ → Post X W σ relB ρ H (m s μ) Q → WT X e σ H Q
def CA (X : Cx) (W : WX) (es : List Expr) (m : FA) : Prop := ∀ ρ μ s σ H Q, RepS X.K H ρ s σ → RepM X.K H ρ μ → Post X W σ relVs ρ H (m s μ) Q → WA X es σ H Q
/-! ### room by frames: a call is one frame, and at most four units -/
structure RoomD (k : Nat) (A : Around) : Prop where
  hd : A.handled = none
  dp : A.depth + k + 5 < recursionLimit
  un : A.units + 4 * k + 800 < cLine
theorem RoomD.up {j k : Nat} {A : Around} (q : RoomD k A) (l : j ≤ k) : RoomD j A := ⟨q.hd, by have := q.dp; omega, by have := q.un; omega⟩
theorem RoomD.into {k : Nat} {A : Around} (q : RoomD (k + 1) A) (en : Env) : RoomD k (A.deeper en) := by
  refine ⟨q.hd, ?_, ?_⟩
  · have := q.dp
    show A.depth + 1 + k + 5 < _
    omega
  · have := q.un
    show A.units + 3 + 4 * k + 800 < _
    omega
theorem RoomD.cls {k : Nat} {A : Around} (q : RoomD (k + 1) A) (C : Addr) (zs : List Value) (kw : List (Str × Value)) : RoomD k (A.under (.builtin "type.__call__" ⟨.ref C :: zs, kw⟩)) := by
  refine ⟨q.hd, ?_, ?_⟩
  · have := q.dp
    rw [make_depth]
    omega
  · have := q.un
    rw [make_units]
    omega
theorem RoomD.lim {k : Nat} {A : Around} (q : RoomD k A) : A.depth < recursionLimit := by
  have := q.dp
  omega
theorem RoomD.of {A : Around} (q : Room 230 A) : RoomD 690 A := by
  refine ⟨q.hd, ?_, ?_⟩
  · have := q.dp
    omega
  · have := q.un
    omega
/-- a def's promise over such room -/
structure FnD (P : Program) (w : World) (K : PySem.W.Frag) (mg : Str → Option Value) (base : Heap) (CT : CXT) (k : Nat) (f : Addr) (fd : FuncData) (ps : List Str) (sp : Sp) : Prop where
  len : ∀ zs H Q E, sp zs H Q E → zs.length = ps.length
  go : ∀ (A : Around) (outer : List Env) (s : Shared) (H : Hp) (ar : Args) (us : List Value) (zs : List V) (Q : VK) (E : XK), RoomD k A → Env0 P w K mg base A outer s H → BindsTo s fd ar (ps.zip us) → Vals zs us → sp zs H Q E →
    codeAny (model P w) A (.call (.ref f) ar) (CR CT outer P w H s Q E) s
section
variable {P : Program} {w : World} {K : PySem.W.Frag} {mg : Str → Option Value} {base : Heap} {CT : CXT} {k : Nat} {f : Addr} {fd : FuncData} {ps : List Str} {sp : Sp}
theorem FnD.up {j : Nat} (F : FnD P w K mg base CT j f fd ps sp) (l : j ≤ k) : FnD P w K mg base CT k f fd ps sp := by
  refine ⟨F.len, fun A outer s H ar us zs Q E q => ?_⟩
  exact F.go A outer s H ar us zs Q E (q.up l)
theorem FnD.ok (F : FnD P w K mg base CT 690 f fd ps sp) : FnOk P w K mg base CT 230 f fd ps sp := by
  refine ⟨F.len, fun A outer s H ar us zs Q E q => ?_⟩
  exact F.go A outer s H ar us zs Q E (RoomD.of q)
/-- a def by its body -/
theorem fnD_of {nm qn : Str} {pr : Arguments} {body : List Stmt} {scope : Scope} {dV kV doc pm cdv ct oc : Value} {an od : Option Addr} {osl : Array (Option Value)} {N : List Str}
    (lk : K.lookup f = some ⟨oc, od, .func (PySem.W.fnOf nm qn pr body scope dV kV doc pm an cdv ct), osl⟩) (hc : PySem.W.codeIn K cdv qn = true) (S : FnScope N ps scope) (ln : ∀ zs H Q E, sp zs H Q E → zs.length = ps.length)
    (hb : ∀ (A : Around) (outer : List Env) (s : Shared) (H : Hp) (zs : List V) (Q : VK) (E : XK), RoomD k (A.deeper (envOfC qn scope s.heap.objs.size f cdv)) → sp zs H Q E →
      ∃ t, PSs (cxOf CT P w K mg base N qn scope f cdv A outer s H E) body t ∧ t { nx := fun _ H' => Q .non H', rt := Q } (start N zs) H) : FnD P w K mg base CT (k + 1) f (PySem.W.fnOf nm qn pr body scope dV kV doc pm an cdv ct) ps sp := by
  refine ⟨ln, fun A outer s H ar us zs Q E q e0 bt rv hs => ?_⟩
  have hln := ln _ _ _ _ hs
  have kin : K.In s.heap := e0.mod.kin.keeps fun a o e => (e0.bs a o e).1
  have nol : s.heap.NoLimit := e0.mod.nolimit.keeps fun a o e => (e0.bs a o e).1
  have kinds : ∀ y ∈ ps.zip us, scope.names.lookup y.1 = some .local ∨ (scope.names.lookup y.1 = some .cell ∧ ((cellsFrom (s.heap.objs.size + 1) scope.names []).lookup y.1).isSome = true) := by
    rintro ⟨n, v⟩ hy
    rcases S.par n (List.of_mem_zip hy).1 with z | z
    · exact Or.inl z
    · exact Or.inr ⟨z, PySem.W.cellsFrom_some _ _ _ (Or.inl z)⟩
  refine codeAny_call_function q.lim (kin _ _ lk) rfl S.co S.gen rfl (PySem.W.codeRec_of kin hc) (bt _ _ _ _ ?_)
  refine wpAny_newFunctionEnv_cells S.kind kinds fun en hen s1 xc => ?_
  subst hen
  refine ⟨nol.keeps xc.toInCall.keep, codeAny_func ?_⟩
  obtain ⟨t, pt, qt⟩ := hb A outer s H zs Q E (q.into _) hs
  have I : Inv (cxOf CT P w K mg base N qn scope f cdv A outer s H E) [] (start N zs) H s1 := inv_start S q.hd e0 hln rv xc
  have fin : ∀ {σ' : L2.St} {H' : Hp} {v : V} {u : Value} {s2 : Shared}, Inv (cxOf CT P w K mg base N qn scope f cdv A outer s H E) [] σ' H' s2 → RelV v u → Q v H' → L2.CE outer P w H s Q u s2 := by
    intro σ' H' v u s2 J r1 q1
    exact ⟨v, H', J.os, J.bare, J.base, J.hok, r1, q1⟩
  refine wpAny_mono (pt.run [] s1 (start N zs) H _ I qt) (fun fl s2 hz => ?_) fun _ _ hz => hz
  cases fl with
  | ret u =>
    obtain ⟨v, σ', H', J, r1, q1⟩ := hz
    exact fin J r1 q1
  | next =>
    obtain ⟨σ', H', J, q1⟩ := hz
    exact fin (v := V.non) (u := Value.none) J rfl q1
  | brk => obtain ⟨_, _, _, z⟩ := hz; exact z.elim
  | cont => obtain ⟨_, _, _, z⟩ := hz; exact z.elim
theorem okD {nm qn : Str} {pr : Arguments} {body : List Stmt} {scope : Scope} {dvs : List V} {kws : List (Str × V)} {N : List Str} (F : FunD K nm qn pr body scope dvs kws f fd) (S : FnScope N ps scope) (ln : ∀ zs H Q E, sp zs H Q E → zs.length = ps.length)
    (hb : ∀ (cdv : Value) (A : Around) (outer : List Env) (s : Shared) (H : Hp) (zs : List V) (Q : VK) (E : XK), RoomD k (A.deeper (envOfC qn scope s.heap.objs.size f cdv)) → sp zs H Q E →
      ∃ t, PSs (cxOf CT P w K mg base N qn scope f cdv A outer s H E) body t ∧ t { nx := fun _ H' => Q .non H', rt := Q } (start N zs) H) : FnD P w K mg base CT (k + 1) f fd ps sp := by
  obtain ⟨oc, od, dV, kV, doc, pm, an, cdv, ct, osl, e1, e2, e3, _, _⟩ := F.ex
  subst e1
  exact fnD_of e2 e3 S ln fun A outer s H zs Q E q hs => hb cdv A outer s H zs Q E q hs
end
section
variable {X : Cx} {CT : CXT} {k : Nat} {f C : Addr} {fd : FuncData} {ps : List Str} {sp : Sp} {x m : Str} {p pos apos : Pos} {e o : Expr} {es : List Expr} {ta : TE} {t : TA}
theorem run_d {E : XK} {pn : List (Addr × Obj)} {σ : L2.St} {H : Hp} {s : Shared} {Q : VK} {us : List Value} {zs : List V} (F : FnD X.prog X.w X.K X.mg X.base CT k f fd ps sp) (q : RoomD k X.A) (bt : Binds X.K fd ps []) (ho : PassesAt CT X σ E)
    (I : Inv X pn σ H s) (rv : Vals zs us) (hs : sp zs H Q E) : wpAny (model X.prog X.w) X.A (call (.ref f) us) (EP X pn σ Q) X.xe s := by
  have hln : us.length = ps.length := rv.length ▸ F.len _ _ _ _ hs
  have b := bt s us I.kIn (by rw [List.append_nil]; exact hln)
  rw [List.append_nil] at b
  refine wpAny_call (codeAny_mono (F.go X.A X.stack s H ⟨us, []⟩ us zs Q E q I.env0 b rv hs) fun r s2 hz => ?_)
  cases r with
  | error e => exact ho pn H s e s2 I hz
  | ok fl =>
    cases fl with
    | ret u => exact I.after hz
    | next => exact hz.elim
    | brk => exact hz.elim
    | cont => exact hz.elim
theorem pat {E : XK} {σ : L2.St} (h : Passes CT X E) : PassesAt CT X σ E := fun pn H s e s2 I c => h pn σ H s e s2 I c
theorem pd_callS {E : L2.St → XK} (F : FnD X.prog X.w X.K X.mg X.base CT k f fd ps sp) (q : RoomD k X.A) (gx : Gl X x) (hm : X.mg x = some (.ref f)) (hk : PySem.W.keepIn X.K (.ref f) = true) (bt : Binds X.K fd ps []) (ho : ∀ σ, PassesAt CT X σ (E σ)) (pa : PA X (e :: es) t)
    (nd : (x == ("__debug__" : Str)) = false := by decide) (se : starEach (e :: es) X.env = (false, eval e X.env) :: starEach es X.env := by rfl) (bp : (backTo pos (starEach es X.env)).any (·.1) = false := by rfl) : PE X (.Call (.Name x p) (e :: es) [] pos) (tCallS sp E t) := by
  refine ⟨fun pn s σ H Q I h => ?_⟩
  refine wpAny_Call_Name_kw (ld_glob I gx hm ?_ nd)
  refine PySem.W.callWith_K (h₀ := X.base) I.ok.mod.kin hk (thn (pa.run pos pn s σ H _ I h) fun us s1 ⟨zs, H1, I1, r1, q1⟩ => ⟨I1.kIn, ?_⟩) se bp
  exact run_d F q bt (ho σ) I1 r1 q1
theorem pd_meth {E : XK} {pl : Sem Bool} (po : PE X o ta) (c : Cls X.K C) (me : Meth X.K C m f) (F : FnD X.prog X.w X.K X.mg X.base CT k f fd ps sp) (q : RoomD k X.A) (bt : Binds X.K fd ps []) (ho : Passes CT X E) (pa : PA X (e :: es) t)
    (se : starEach (e :: es) X.env = (false, eval e X.env) :: starEach es X.env := by rfl) (bp : (backTo pos (starEach es X.env)).any (·.1) = false := by rfl)
    (ht : eval (.Call (.Attribute o m apos) (e :: es) [] pos) X.env = (do
      let v ← eval o X.env
      standAt apos.atName
      let (g, fst) ← holding [v] (getMethod v m pl)
      callWith pos g fst (backTo pos (starEach (e :: es) X.env)) (backToKw pos (keywordEach [] X.env))) := by rfl) :
    PE X (.Call (.Attribute o m apos) (e :: es) [] pos) (tMeth C m sp [] E ta t) := by
  refine ⟨fun pn s σ H Q I h => ?_⟩
  refine PySem.W.methodCall_KW (pl := pl) (thn (po.run pn s σ H _ I h) fun u s1 ⟨y, H1, I1, ry, a, dx, fs, ey, ea, l, q1⟩ => ?_) ht
  subst ey
  obtain rfl : u = Value.ref a := ry
  refine getmeth_ok I1 ea c me l ?_
  refine PySem.W.callWith_K (first := [.ref a]) (h₀ := X.base) I.ok.mod.kin me.kp (thn (pa.run pos pn s1 σ H1 _ I1 q1) fun us s2 ⟨zs, H2, I2, r2, q2⟩ => ⟨I2.kIn, ?_⟩) se bp
  have q3 := q2
  simp only [List.append_nil] at q3
  exact run_d (us := .ref a :: us) (zs := .ref a :: zs) F q bt (pat ho) I2 (.cons rfl r2) q3
theorem run_mk {E : XK} {pn : List (Addr × Obj)} {σ : L2.St} {H : Hp} {s : Shared} {Q : VK} {us : List Value} {zs : List V} (M : Mk X.K C f) (F : FnD X.prog X.w X.K X.mg X.base CT k f fd ps sp) (q : RoomD (k + 1) X.A) (bt : Binds X.K fd ps []) (ho : Passes CT X E)
    (I : Inv X pn σ H s) (rv : Vals zs us) (h : ∀ y dx, H y = none → H dx = none → dx ≠ y → sp (.ref y :: (zs ++ [])) (upd (upd H dx (.own y)) y (.ins C dx [])) (fun v H2 => v = .non ∧ Q (.ref y) H2) E) :
    wpAny (model X.prog X.w) X.A (call (.ref C) us) (EP X pn σ Q) X.xe s := by
  have h1 := h (s.heap.objs.size + 1) s.heap.objs.size (I.hok.fresh (Nat.le_succ _)) (I.hok.fresh (Nat.le_refl _)) (Nat.ne_of_lt (Nat.lt_succ_self _))
  simp only [List.append_nil] at h1
  have J := Inv.made (C := C) I
  have rw2 : Vals (V.ref (s.heap.objs.size + 1) :: zs) (Value.ref (s.heap.objs.size + 1) :: us) := .cons rfl rv
  have hln : (Value.ref (s.heap.objs.size + 1) :: us).length = ps.length := rw2.length ▸ F.len _ _ _ _ h1
  have b := bt _ (Value.ref (s.heap.objs.size + 1) :: us) J.kIn (by rw [List.append_nil]; exact hln)
  rw [List.append_nil] at b
  refine wpAny_call (make_map (f := f) I.kIn M.makes M.init (beq_iff_eq.mp M.fn) (codeAny_mono (F.go _ X.stack _ _ ⟨Value.ref (s.heap.objs.size + 1) :: us, []⟩ _ _ _ E (q.cls C us []) (J.env0.make C us []) b rw2 h1) fun r s2 hz => ?_))
  cases r with
  | error e => exact ho pn σ _ _ e s2 J hz
  | ok fl =>
    cases fl with
    | ret u =>
      obtain ⟨v, H2, J2, r2, ev, q2⟩ := J.after hz
      subst ev
      exact ⟨r2, ⟨V.ref (s.heap.objs.size + 1), H2, J2, rfl, q2⟩⟩
    | next => exact hz.elim
    | brk => exact hz.elim
    | cont => exact hz.elim
theorem pd_make {E : XK} (M : Mk X.K C f) (F : FnD X.prog X.w X.K X.mg X.base CT k f fd ps sp) (q : RoomD (k + 1) X.A) (gx : Gl X x) (hm : X.mg x = some (.ref C)) (bt : Binds X.K fd ps []) (ho : Passes CT X E) (pa : PA X (e :: es) t)
    (nd : (x == ("__debug__" : Str)) = false := by decide) (se : starEach (e :: es) X.env = (false, eval e X.env) :: starEach es X.env := by rfl) (bp : (backTo pos (starEach es X.env)).any (·.1) = false := by rfl) : PE X (.Call (.Name x p) (e :: es) [] pos) (tMake C sp [] E t) := by
  refine ⟨fun pn s σ H Q I h => ?_⟩
  refine wpAny_Call_Name_kw (ld_glob I gx hm ?_ nd)
  refine PySem.W.callWith_K (h₀ := X.base) I.ok.mod.kin M.kp (thn (pa.run pos pn s σ H _ I h) fun us s1 ⟨zs, H1, I1, r1, q1⟩ => ⟨I1.kIn, ?_⟩) se bp
  exact run_mk M F q bt ho I1 r1 q1
end
/-- what holds of a context: nothing is handled, k calls have room, W takes what is raised -/
structure Good (X : Cx) (W : WX) (k : Nat) : Prop where
  calm : X.calm = true
  room : RoomD k X.A
  tk : Takes X W
  po : PassesOwn (model X.prog X.w) X.A X.env X.xe
section
variable {X : Cx} {W : WX} {k : Nat}
/-! names and constants -/
def fVar (i : Nat) : FE := fun s μ => match s[i]? with
  | some (some u) => .ok u μ
  | _ => .bad
theorem ce_var (i : Nat) {x : Str} {pos : Pos} (hN : X.N[i]? = some x := by rfl) (hv : Vis X.env.scope x := by first | exact Or.inl rfl | exact Or.inr (Or.inl rfl) | exact Or.inr (Or.inr rfl)) (hd : (x == ("__debug__" : Str)) = false := by decide)
    (hcd : (x == ("__classdict__" : Str)) = false := by decide) : CE X W (.Name x pos) (fVar i) := by
  intro ρ μ s σ H Q hs hm h
  refine ⟨tVar i, pe_var hN hv hd hcd, ?_⟩
  unfold fVar at h
  cases e : s[i]? with
  | none => rw [e] at h; exact h.elim
  | some o =>
    cases o with
    | none => rw [e] at h; exact h.elim
    | some u =>
      rw [e] at h
      obtain ⟨v, q, r⟩ := hs.get i u e
      exact ⟨v, q, h.ok (Stp.refl hm) r⟩
def fC (u : U) : FE := fun _ μ => .ok u μ
theorem ce_int {i : Int} {j : Nat} {pos : Pos} : CE X W (.Constant (.int i) j pos) (fC (.int i)) := fun ρ μ s σ H Q hs hm h => ⟨_, pe_int, h.ok (Stp.refl hm) .int⟩
theorem ce_bl {b : Bool} {j : Nat} {pos : Pos} : CE X W (.Constant (.bool b) j pos) (fC (.bl b)) := fun ρ μ s σ H Q hs hm h => ⟨_, pe_bl, h.ok (Stp.refl hm) .bl⟩
theorem ce_non {j : Nat} {pos : Pos} : CE X W (.Constant .none j pos) (fC .non) := fun ρ μ s σ H Q hs hm h => ⟨_, pe_non, h.ok (Stp.refl hm) .non⟩
theorem ce_str {x : Str} {j : Nat} {pos : Pos} (hx : PyData.strOk x = true := by decide +kernel) : CE X W (.Constant (.str x) j pos) (fC (.str x)) := fun ρ μ s σ H Q hs hm h => ⟨_, pe_str, h.ok (Stp.refl hm) (.str hx)⟩
/-- a constant of the module -/
theorem ce_glob {x : Str} {u : U} {v : V} {z : Value} {pos : Pos} (hg : Gl X x) (hm : X.mg x = some z) (r : RelV v z) (q : ∀ H ρ, RepV X.K H ρ u v) (hd : (x == ("__debug__" : Str)) = false := by decide) : CE X W (.Name x pos) (fC u) :=
  fun ρ μ s σ H Q hs hm' h => ⟨_, pe_glob hg hm r hd, h.ok (Stp.refl hm') (q H ρ)⟩
/-! two-place operations -/
def fOp (f : U → U → Mem → Res U) (a b : FE) : FE := fun s μ => (a s μ).bind fun u μ1 => (b s μ1).bind fun w μ2 => f u w μ2
def OpS (X : Cx) (W : WX) (g : Value → Value → Sem Value) (f : U → U → Mem → Res U) : Prop := ∀ ρ μ σ H u w x y Q, RepM X.K H ρ μ → RepV X.K H ρ u x → RepV X.K H ρ w y → Post X W σ relV ρ H (f u w μ) Q → OpW X g x y H Q
theorem ce_op {op : Operator} {a b : Expr} {f : U → U → Mem → Res U} {ma mb : FE} {pos : Pos} (ho : OpS X W (binaryOp op) f) (ha : CE X W a ma) (hb : CE X W b mb) : CE X W (.BinOp a op b pos) (fOp f ma mb) := by
  intro ρ μ s σ H Q hs hm h
  refine ⟨_, pe_op op_w pe_w pe_w, ?_⟩
  refine ha ρ μ s σ H _ hs hm (h.bind fun u μ1 x H1 ρ1 t1 r1 h1 => ?_)
  refine hb ρ1 μ1 s σ H1 _ (t1.s hs) t1.mem (h1.bind fun w μ2 y H2 ρ2 t2 r2 h2 => ?_)
  exact ho ρ2 μ2 σ H2 u w x y Q t2.mem (t2.v r1) r2 h2
theorem ce_cmp {op : CmpOp} {a b : Expr} {f : U → U → Mem → Res U} {ma mb : FE} {pos : Pos} (ho : OpS X W (compareOp op) f) (ha : CE X W a ma) (hb : CE X W b mb) (hm0 : behindInMarks op b = false) : CE X W (.Compare a [op] [b] pos) (fOp f ma mb) := by
  intro ρ μ s σ H Q hs hm h
  refine ⟨_, pe_cmpR op_w pe_w pe_w hm0, ?_⟩
  refine ha ρ μ s σ H _ hs hm (h.bind fun u μ1 x H1 ρ1 t1 r1 h1 => ?_)
  refine hb ρ1 μ1 s σ H1 _ (t1.s hs) t1.mem (h1.bind fun w μ2 y H2 ρ2 t2 r2 h2 => ?_)
  exact ho ρ2 μ2 σ H2 u w x y Q t2.mem (t2.v r1) r2 h2
end
end Dg
/-! Dg2: operators, comparisons, tests, displays, calls of built-ins by value. -/
namespace Dg
open PySem PySem.Spec PyProof.Rows L2
def lim : Nat := 16777216
theorem lim_le {n : Nat} (h : n ≤ lim) : n ≤ sizeLine := h
theorem lim_lt {n : Nat} (h : n < lim) : n < sizeLine := h
/-! ### data of a value (for ==) -/
mutual
def toD (g : Nat → Option PyData) : U → Option PyData
  | .non => some .none
  | .bl b => some (.bool b)
  | .int i => some (.int i)
  | .str s => some (.str s)
  | .tup us => (toDs g us).map .tuple
  | .ref i => g i
  | .frl us => (toDs g us).map .list
def toDs (g : Nat → Option PyData) : List U → Option (List PyData)
  | [] => some []
  | u :: us => match toD g u, toDs g us with
    | some d, some ds => some (d :: ds)
    | _, _ => none
end
def refD (μ : Mem) : Nat → Nat → Option PyData
  | 0, _ => none
  | n + 1, i => match μ[i]? with
    | some (.lst us) => (toDs (refD μ n) us).map .list
    | _ => none
def datU (μ : Mem) (u : U) : Option PyData := toD (refD μ 6) u
def DOk (K : PySem.W.Frag) (H : Hp) (ρ : List Addr) (g : Nat → Option PyData) : Prop := ∀ i a d, ρ[i]? = some a → g i = some d → Dp K H (.ref a) d ∧ d.canLay0 = true
section
variable {K : PySem.W.Frag} {H : Hp} {ρ : List Addr} {μ : Mem} {g : Nat → Option PyData}
mutual
theorem toD_ok (hg : DOk K H ρ g) : ∀ (u : U) (v : V) (d : PyData), RepV K H ρ u v → toD g u = some d → Dp K H v d ∧ d.canLay0 = true
  | .non, _, _, h, e => by
    cases h
    simp only [toD, Option.some.injEq] at e
    subst e
    exact ⟨.non, rfl⟩
  | .bl b, _, _, h, e => by
    cases h
    simp only [toD, Option.some.injEq] at e
    subst e
    exact ⟨.bl _, rfl⟩
  | .int i, _, _, h, e => by
    cases h
    simp only [toD, Option.some.injEq] at e
    subst e
    exact ⟨.int _, rfl⟩
  | .str s, _, _, h, e => by
    cases h with
    | str hs =>
      simp only [toD, Option.some.injEq] at e
      subst e
      exact ⟨.str _, by simpa [PyData.canLay0] using hs⟩
  | .tup us, _, _, h, e => by
    cases h with
    | tup hs hr =>
      simp only [toD, Option.map_eq_some_iff] at e
      obtain ⟨ds, e1, rfl⟩ := e
      obtain ⟨h1, h2⟩ := toDs_ok hg us _ ds hr e1
      exact ⟨.tup hs h1, by simpa [PyData.canLay0] using h2⟩
  | .ref i, _, _, h, e => by
    cases h with
    | ref hr =>
      simp only [toD] at e
      exact hg i _ _ hr e
  | .frl us, _, _, h, e => by
    cases h with
    | frl hs hr =>
      simp only [toD, Option.map_eq_some_iff] at e
      obtain ⟨ds, e1, rfl⟩ := e
      obtain ⟨h1, h2⟩ := toDs_ok hg us _ ds hr e1
      exact ⟨.lst hs.sq h1, by simpa [PyData.canLay0] using h2⟩
theorem toDs_ok (hg : DOk K H ρ g) : ∀ (us : List U) (vs : List V) (ds : List PyData), RepVs K H ρ us vs → toDs g us = some ds → DpAll K H vs ds ∧ PyData.canLayAll0 ds = true
  | [], _, _, h, e => by
    cases h
    simp only [toDs, Option.some.injEq] at e
    subst e
    exact ⟨.nil, rfl⟩
  | u :: us, _, _, h, e => by
    cases h with
    | cons h1 h2 =>
      simp only [toDs] at e
      cases e1 : toD g u with
      | none => rw [e1] at e; cases e
      | some d =>
        cases e2 : toDs g us with
        | none => rw [e1, e2] at e; cases e
        | some ds =>
          rw [e1, e2] at e
          cases e
          obtain ⟨a1, a2⟩ := toD_ok hg u _ d h1 e1
          obtain ⟨b1, b2⟩ := toDs_ok hg us _ ds h2 e2
          exact ⟨.cons a1 b1, by simp [PyData.canLayAll0, a2, b2]⟩
end
theorem refD_ok (m : RepM K H ρ μ) : ∀ n, DOk K H ρ (refD μ n)
  | 0, _, _, _, _, e => by simp [refD] at e
  | n + 1, i, a, d, hi, e => by
    obtain ⟨c, hc, r⟩ := m.at hi
    simp only [refD, hc] at e
    cases c with
    | lst us =>
      obtain ⟨vs, q, rr⟩ := r
      simp only [Option.map_eq_some_iff] at e
      obtain ⟨ds, e1, rfl⟩ := e
      obtain ⟨h1, h2⟩ := toDs_ok (refD_ok m n) us _ ds rr e1
      exact ⟨.lst (.inl (.inl q)) h1, by simpa [PyData.canLay0] using h2⟩
    | _ => cases e
theorem datU_ok (m : RepM K H ρ μ) {u : U} {v : V} {d : PyData} (r : RepV K H ρ u v) (e : datU μ u = some d) : Dp K H v d ∧ d.canLay0 = true := toD_ok (refD_ok m 6) u v d r e
end
def eqLim : Nat := 800
def eqU (u w : U) (μ : Mem) : Option Bool := match datU μ u, datU μ w with
  | some d, some e => if min d.depth e.depth ≤ eqLim then some (PyData.eqv d e) else none
  | _, _ => none
def resB (o : Option Bool) (μ : Mem) : Res U := match o with
  | some b => .ok (.bl b) μ
  | none => .bad
def uEq (u w : U) (μ : Mem) : Res U := resB (eqU u w μ) μ
def uNe (u w : U) (μ : Mem) : Res U := resB ((eqU u w μ).map not) μ
section
variable {X : Cx} {W : WX} {k : Nat}
def rEqL (K : PySem.W.Frag) : R2 := fun x y H Q => ∃ d e, Dp K H x d ∧ Dp K H y e ∧ d.canLay0 = true ∧ e.canLay0 = true ∧ min d.depth e.depth ≤ eqLim ∧ Q (.bl (PyData.eqv d e)) H
def rNeL (K : PySem.W.Frag) : R2 := fun x y H Q => ∃ d e, Dp K H x d ∧ Dp K H y e ∧ d.canLay0 = true ∧ e.canLay0 = true ∧ min d.depth e.depth ≤ eqLim ∧ Q (.bl (!PyData.eqv d e)) H
theorem op_eqL (hu : X.A.units + 800 < cLine) : OpR X (compareOp .Eq) (rEqL X.K) := by
  intro pins s σ H x y v u Q I rx ry h
  obtain ⟨d, e, hd, he, sd, se, hl, q⟩ := h
  obtain ⟨as, r1⟩ := Dp.reads I d x v hd rx
  obtain ⟨bs, r2⟩ := Dp.reads I e y u he ry
  exact SeqAt.compareEq_reads r1 r2 sd se (Nat.lt_of_le_of_lt (Nat.add_le_add_left hl _) hu) ⟨.bl _, H, I, rfl, q⟩
theorem op_neL (hu : X.A.units + 800 < cLine) : OpR X (compareOp .NotEq) (rNeL X.K) := by
  intro pins s σ H x y v u Q I rx ry h
  obtain ⟨d, e, hd, he, sd, se, hl, q⟩ := h
  obtain ⟨as, r1⟩ := Dp.reads I d x v hd rx
  obtain ⟨bs, r2⟩ := Dp.reads I e y u he ry
  exact SeqAt.compareNe_reads r1 r2 sd se (Nat.lt_of_le_of_lt (Nat.add_le_add_left hl _) hu) ⟨.bl _, H, I, rfl, q⟩
/-- levels are counted from 40 on -/
theorem Good.un (G : Good X W (k + 40)) : X.A.units + 800 < cLine := by
  have := G.room.un
  omega
theorem Good.hu (G : Good X W (k + 40)) : X.A.units + 1 < cLine := by
  have := G.room.un
  omega
theorem os_eq (G : Good X W (k + 40)) : OpS X W (compareOp .Eq) uEq := by
  intro ρ μ σ H u w x y Q hm ru rw' h
  unfold uEq eqU at h
  cases e1 : datU μ u with
  | none => rw [e1] at h; exact h.elim
  | some d =>
    cases e2 : datU μ w with
    | none => rw [e1, e2] at h; exact h.elim
    | some e =>
      rw [e1, e2] at h
      obtain ⟨a1, a2⟩ := datU_ok hm ru e1
      obtain ⟨b1, b2⟩ := datU_ok hm rw' e2
      by_cases hl : min d.depth e.depth ≤ eqLim
      · simp only [hl, if_true, resB] at h
        exact ⟨_, op_eqL G.un, d, e, a1, b1, a2, b2, hl, h.ok (Stp.refl hm) .bl⟩
      · simp only [hl, if_false, resB] at h
        exact h.elim
theorem os_ne (G : Good X W (k + 40)) : OpS X W (compareOp .NotEq) uNe := by
  intro ρ μ σ H u w x y Q hm ru rw' h
  unfold uNe eqU at h
  cases e1 : datU μ u with
  | none => rw [e1] at h; exact h.elim
  | some d =>
    cases e2 : datU μ w with
    | none => rw [e1, e2] at h; exact h.elim
    | some e =>
      rw [e1, e2] at h
      obtain ⟨a1, a2⟩ := datU_ok hm ru e1
      obtain ⟨b1, b2⟩ := datU_ok hm rw' e2
      by_cases hl : min d.depth e.depth ≤ eqLim
      · simp only [hl, if_true, Option.map_some, resB] at h
        exact ⟨_, op_neL G.un, d, e, a1, b1, a2, b2, hl, h.ok (Stp.refl hm) .bl⟩
      · simp only [hl, if_false, Option.map_none, resB] at h
        exact h.elim
/-! ### arithmetic -/
def big64 (i : Int) : Bool := decide (-(2 ^ 64) < i ∧ i < 2 ^ 64)
def uAdd (u w : U) (μ : Mem) : Res U := match u, w with
  | .int i, .int j => .ok (.int (i + j)) μ
  | .str a, .str b => if a.length + b.length ≤ lim then .ok (.str (a ++ b)) μ else .bad
  | .ref a, .ref b => match μ[a]?, μ[b]? with
    | some (.lst xs), some (.lst ys) => if xs.length + ys.length ≤ lim then .ok (.ref μ.length) (μ ++ [.lst (xs ++ ys)]) else .bad
    | _, _ => .bad
  | .tup (x :: xs), .tup ys => if (x :: xs).length + ys.length ≤ lim then .ok (.tup (x :: xs ++ ys)) μ else .bad
  | .tup [], .tup ys => .ok (.tup ys) μ
  | _, _ => .bad
theorem strOk_append {a b : Str} (ha : PyData.strOk a = true) (hb : PyData.strOk b = true) : PyData.strOk (a ++ b) = true := by
  show ((a.cps ++ b.cps).all _) = true
  rw [Array.all_append]
  exact Bool.and_eq_true_iff.mpr ⟨ha, hb⟩
theorem lst_of {K : PySem.W.Frag} {H : Hp} {ρ : List Addr} {μ : Mem} (hm : RepM K H ρ μ) {i : Nat} {a : Addr} {us : List U} (e : ρ[i]? = some a) (h : μ[i]? = some (.lst us)) : ∃ vs, H a = some (.lst vs) ∧ RepVs K H ρ us vs := hm.get e h
theorem newL {K : PySem.W.Frag} {H : Hp} {ρ : List Addr} {μ : Mem} (hm : RepM K H ρ μ) {p : Addr} {us : List U} {vs : List V} (np : H p = none) (r : RepVs K H ρ us vs) : Stp K ρ H (ρ ++ [p]) (upd H p (.lst vs)) (μ ++ [.lst us]) :=
  Stp.new hm np ⟨vs, upd_same, r.mono (TX.new np) (Ext.snoc ρ p)⟩
theorem refN {K : PySem.W.Frag} {H : Hp} {ρ : List Addr} {μ : Mem} (hm : RepM K H ρ μ) {p : Addr} {H' : Hp} : RepV K H' (ρ ++ [p]) (.ref μ.length) (.ref p) := .ref (by rw [← hm.len, List.getElem?_append_right (Nat.le_refl _)]; simp)
theorem newT {K : PySem.W.Frag} {H : Hp} {ρ : List Addr} {p : Addr} {us : List U} {vs : List V} (np : H p = none) (r : RepVs K H ρ us vs) : RepV K (upd H p (.tup vs)) ρ (.tup us) (.ref p) :=
  .tup (.inl (.inl upd_same)) (r.mono (TX.new np) (Ext.refl _))
theorem os_add : OpS X W (binaryOp .Add) uAdd := by
  intro ρ μ σ H u w x y Q hm ru rw' h
  unfold uAdd at h
  split at h
  · cases ru; cases rw'
    exact ⟨_, op_add, _, _, rfl, rfl, h.ok (Stp.refl hm) .int⟩
  · cases ru with
    | str sa =>
      cases rw' with
      | str sb =>
        split at h
        · exact ⟨_, op_add_str, _, _, rfl, rfl, lim_le (by assumption), h.ok (Stp.refl hm) (.str (strOk_append sa sb))⟩
        · exact h.elim
  · split at h
    · rename_i a b _ _ xs ys e1 e2
      cases ru with
      | ref ra =>
        cases rw' with
        | ref rb =>
          split at h
          · obtain ⟨vs, q1, r1⟩ := lst_of hm ra e1
            obtain ⟨ws, q2, r2⟩ := lst_of hm rb e2
            have hl : vs.length + ws.length ≤ sizeLine := by
              rw [← r1.length, ← r2.length]
              exact lim_le (by assumption)
            exact ⟨_, op_cat, _, _, vs, ws, rfl, rfl, q1, q2, hl, fun p np => h.ok (newL hm np (r1.append r2)) (refN hm)⟩
          · exact h.elim
    · exact h.elim
  · cases ru with
    | tup s1 r1 =>
      cases rw' with
      | tup s2 r2 =>
        split at h
        · rename_i hz
          refine ⟨_, op_catT, _, _, _, _, rfl, rfl, s1, s2, ?_, ?_, fun e => ?_, fun e p np => h.ok (Stp.temp hm np) (newT np (r1.append r2))⟩
          · intro e; subst e; cases r1
          · rw [← r1.length, ← r2.length]; exact lim_le hz
          · subst e
            cases r2
            rw [List.append_nil] at h
            exact h.ok (Stp.refl hm) (.tup s1 r1)
        · exact h.elim
  · cases ru with
    | tup s1 r1 =>
      cases r1
      cases rw' with
      | tup s2 r2 => exact ⟨_, op_cat0, _, _, _, rfl, rfl, s1, s2, h.ok (Stp.refl hm) (.tup s2 r2)⟩
  · exact h.elim
def uSub (u w : U) (μ : Mem) : Res U := match u, w with
  | .int i, .int j => .ok (.int (i - j)) μ
  | _, _ => .bad
theorem os_sub : OpS X W (binaryOp .Sub) uSub := by
  intro ρ μ σ H u w x y Q hm ru rw' h
  unfold uSub at h
  split at h
  · cases ru; cases rw'
    exact ⟨_, op_sub, _, _, rfl, rfl, h.ok (Stp.refl hm) .int⟩
  · exact h.elim
def repU (n : Nat) (xs : List U) : List U := (List.replicate n xs).flatten
theorem RepVs.rep {K : PySem.W.Frag} {H : Hp} {ρ : List Addr} {us : List U} {vs : List V} (r : RepVs K H ρ us vs) : ∀ n : Nat, RepVs K H ρ (repU n us) (List.replicate n vs).flatten
  | 0 => .nil
  | n + 1 => by
    have ih := RepVs.rep r n
    unfold repU at *
    rw [List.replicate_succ, List.replicate_succ, List.flatten_cons, List.flatten_cons]
    exact r.append ih
def uMul (u w : U) (μ : Mem) : Res U := match u, w with
  | .int i, .int j => if big64 i || big64 j then .ok (.int (i * j)) μ else .bad
  | .ref a, .int n => match μ[a]? with
    | some (.lst xs) => if -(2 ^ 63) ≤ n ∧ n < 2 ^ 63 ∧ xs.length * n.toNat ≤ lim then .ok (.ref μ.length) (μ ++ [.lst (repU n.toNat xs)]) else .bad
    | _ => .bad
  | .tup xs, .int n => if -1000 ≤ n ∧ n ≤ 1000 ∧ xs.length ≤ 1000 then .ok (.tup (repU n.toNat xs)) μ else .bad
  | _, _ => .bad
theorem os_mul : OpS X W (binaryOp .Mult) uMul := by
  intro ρ μ σ H u w x y Q hm ru rw' h
  unfold uMul at h
  split at h
  · cases ru; cases rw'
    split at h
    · rename_i hb
      refine ⟨_, op_mul, _, _, rfl, rfl, ?_, h.ok (Stp.refl hm) .int⟩
      rcases Bool.or_eq_true_iff.mp hb with e | e
      · exact .inl (of_decide_eq_true e)
      · exact .inr (of_decide_eq_true e)
    · exact h.elim
  · split at h
    · rename_i xs e1
      cases ru with
      | ref ra =>
        cases rw'
        split at h
        · rename_i hz
          obtain ⟨vs, q1, r1⟩ := lst_of hm ra e1
          exact ⟨_, op_rep, _, _, vs, rfl, rfl, q1, hz.1, hz.2.1, by rw [← r1.length]; exact lim_le hz.2.2, fun p np => h.ok (newL hm np (r1.rep _)) (refN hm)⟩
        · exact h.elim
    · exact h.elim
  · rename_i xs n
    split at h
    · rename_i hz
      cases rw'
      cases ru with
      | tup s1 r1 =>
        rename_i a vs
        by_cases h0 : xs = []
        · subst h0
          cases r1
          have e : repU n.toNat ([] : List U) = [] := by simp [repU]
          rw [e] at h
          exact ⟨_, op_repT1, _, _, _, rfl, rfl, s1, .inl rfl, by omega, by omega, h.ok (Stp.refl hm) (.tup s1 .nil)⟩
        · have hv : vs ≠ [] := fun e => by subst e; cases r1; exact h0 rfl
          by_cases h1 : n = 1
          · subst h1
            have e : repU (1 : Int).toNat xs = xs := by simp [repU]
            rw [e] at h
            exact ⟨_, op_repT1, _, _, _, rfl, rfl, s1, .inr rfl, by omega, by omega, h.ok (Stp.refl hm) (.tup s1 r1)⟩
          · by_cases h2 : n ≤ 0
            · have e : repU n.toNat xs = [] := by rw [Int.toNat_of_nonpos h2]; rfl
              rw [e] at h
              exact ⟨_, op_repT0, _, _, _, rfl, rfl, s1, hv, by omega, h2, fun p np => h.ok (Stp.temp hm np) (newT np .nil)⟩
            · exact ⟨_, op_repT, _, _, _, rfl, rfl, s1, hv, by omega, by omega, by rw [← r1.length]; exact hz.2.2, fun p np => h.ok (Stp.temp hm np) (newT np (r1.rep _))⟩
    · exact h.elim
  · exact h.elim
def uFdiv (u w : U) (μ : Mem) : Res U := match u, w with
  | .int i, .int j => if j ≠ 0 ∧ j.natAbs < 1073741824 then .ok (.int (i.fdiv j)) μ else .bad
  | _, _ => .bad
theorem os_fdiv : OpS X W (binaryOp .FloorDiv) uFdiv := by
  intro ρ μ σ H u w x y Q hm ru rw' h
  unfold uFdiv at h
  split at h
  · cases ru; cases rw'
    split at h
    · exact ⟨_, op_fdivN, _, _, rfl, rfl, by assumption, h.ok (Stp.refl hm) .int⟩
    · exact h.elim
  · exact h.elim
def uMod (u w : U) (μ : Mem) : Res U := match u, w with
  | .int i, .int j => if j ≠ 0 then .ok (.int (i.fmod j)) μ else .bad
  | _, _ => .bad
theorem os_mod : OpS X W (binaryOp .Mod) uMod := by
  intro ρ μ σ H u w x y Q hm ru rw' h
  unfold uMod at h
  split at h
  · cases ru; cases rw'
    split at h
    · exact ⟨_, op_modN, _, _, rfl, rfl, by assumption, h.ok (Stp.refl hm) .int⟩
    · exact h.elim
  · exact h.elim
def uPow (u w : U) (μ : Mem) : Res U := match u, w with
  | .int i, .int j => if 0 ≤ j ∧ j ≤ 1000000 ∧ i.natAbs < 2 ^ 64 then .ok (.int (i ^ j.toNat)) μ else .bad
  | _, _ => .bad
theorem os_pow : OpS X W (binaryOp .Pow) uPow := by
  intro ρ μ σ H u w x y Q hm ru rw' h
  unfold uPow at h
  split at h
  · cases ru; cases rw'
    split at h
    · exact ⟨_, op_pow, _, _, rfl, rfl, by assumption, h.ok (Stp.refl hm) .int⟩
    · exact h.elim
  · exact h.elim
def fNeg (a : FE) : FE := fun s μ => (a s μ).bind fun u μ1 => match u with
  | .int i => .ok (.int (-i)) μ1
  | _ => .bad
theorem ce_neg {a : Expr} {ma : FE} {pos : Pos} (ha : CE X W a ma) : CE X W (.UnaryOp .USub a pos) (fNeg ma) := by
  intro ρ μ s σ H Q hs hm h
  refine ⟨_, pe_un un_neg pe_w, ?_⟩
  refine ha ρ μ s σ H _ hs hm (h.bind fun u μ1 x H1 ρ1 t1 r1 h1 => ?_)
  split at h1
  · cases r1
    exact ⟨_, rfl, h1.ok (Stp.refl t1.mem) .int⟩
  · exact h1.elim
/-! ### comparisons -/
def uCmp (p : Int → Int → Bool) (q : Str → Str → Option Bool) (u w : U) (μ : Mem) : Res U := match u, w with
  | .int i, .int j => .ok (.bl (p i j)) μ
  | .str a, .str b => resB (q a b) μ
  | _, _ => .bad
def strLt (a b : Str) : Bool := PySem.Spec.ltCps a.cps.toList b.cps.toList
def uLt : U → U → Mem → Res U := uCmp (fun i j => decide (i < j)) fun a b => some (strLt a b)
def uLe : U → U → Mem → Res U := uCmp (fun i j => decide (i ≤ j)) fun a b => some (!strLt b a)
def uGt : U → U → Mem → Res U := uCmp (fun i j => decide (j < i)) fun _ _ => none
def uGe : U → U → Mem → Res U := uCmp (fun i j => decide (j ≤ i)) fun _ _ => none
theorem os_cmp {op : CmpOp} {p : Int → Int → Bool} {q : Str → Str → Option Bool} (h1 : OpR X (compareOp op) (rI0 fun i j => .bl (p i j)))
    (h2 : ∀ a b c, q a b = some c → OpR X (compareOp op) (fun x y H Q => x = .str a ∧ y = .str b ∧ Q (.bl c) H)) : OpS X W (compareOp op) (uCmp p q) := by
  intro ρ μ σ H u w x y Q hm ru rw' h
  unfold uCmp at h
  split at h
  · cases ru; cases rw'
    exact ⟨_, h1, _, _, rfl, rfl, h.ok (Stp.refl hm) .bl⟩
  · rename_i a b
    cases ru; cases rw'
    cases e : q a b with
    | none => rw [e] at h; exact h.elim
    | some c =>
      rw [e] at h
      exact ⟨_, h2 a b c e, rfl, rfl, h.ok (Stp.refl hm) .bl⟩
  · exact h.elim
theorem os_lt : OpS X W (compareOp .Lt) uLt := os_cmp op_lt fun a b c e => by
  cases e
  intro pins s σ H x y v u Q I rx ry ⟨ex, ey, q⟩
  exact op_lt_str pins s σ H x y v u Q I rx ry ⟨a, b, ex, ey, by rw [← PyProof.Rows.ltCps_eq]; exact q⟩
theorem os_le : OpS X W (compareOp .LtE) uLe := os_cmp op_le fun a b c e => by
  cases e
  intro pins s σ H x y v u Q I rx ry ⟨ex, ey, q⟩
  exact op_le_str pins s σ H x y v u Q I rx ry ⟨a, b, ex, ey, by rw [← PyProof.Rows.ltCps_eq]; exact q⟩
theorem os_gt : OpS X W (compareOp .Gt) uGt := os_cmp op_gt fun a b c e => nomatch e
theorem os_ge : OpS X W (compareOp .GtE) uGe := os_cmp op_ge fun a b c e => nomatch e
def uNotN (u w : U) (μ : Mem) : Res U := match w, u with
  | .non, .non => .ok (.bl false) μ
  | .non, _ => .ok (.bl true) μ
  | _, _ => .bad
theorem os_notN : OpS X W (compareOp .IsNot) uNotN := by
  intro ρ μ σ H u w x y Q hm ru rw' h
  unfold uNotN at h
  split at h
  · cases ru; cases rw'
    exact ⟨_, op_notN, rfl, h.ok (Stp.refl hm) .bl⟩
  · rename_i hn
    cases rw'
    have e : decide (x = V.non) = false := decide_eq_false (fun q => by subst q; cases ru; exact hn rfl)
    exact ⟨_, op_notN, rfl, by rw [e]; exact h.ok (Stp.refl hm) .bl⟩
  · exact h.elim
/-- a < b < c -/
def fChain (f g : U → U → Mem → Res U) (a b c : FE) : FE := fun s μ => (a s μ).bind fun x μ1 => (b s μ1).bind fun y μ2 => (f x y μ2).bind fun z μ3 => match z with
  | .bl true => (c s μ3).bind fun w μ4 => g y w μ4
  | .bl false => .ok (.bl false) μ3
  | _ => .bad
theorem ce_chain {op op' : CmpOp} {a b c : Expr} {f g : U → U → Mem → Res U} {ma mb mc : FE} {pos : Pos} (ho : OpS X W (compareOp op) f) (ho' : OpS X W (compareOp op') g) (ha : CE X W a ma) (hb : CE X W b mb) (hc : CE X W c mc)
    (hch : ∀ {r r' : R2} {ta tb tc : TE}, OpR X (compareOp op) r → OpR X (compareOp op') r' → PE X a ta → PE X b tb → PE X c tc → PE X (.Compare a [op, op'] [b, c] pos) (tChain r r' ta tb tc)) : CE X W (.Compare a [op, op'] [b, c] pos) (fChain f g ma mb mc) := by
  intro ρ μ s σ H Q hs hm h
  refine ⟨_, hch op_w op_w pe_w pe_w pe_w, ?_⟩
  refine ha ρ μ s σ H _ hs hm (h.bind fun u μ1 x H1 ρ1 t1 r1 h1 => ?_)
  refine hb ρ1 μ1 s σ H1 _ (t1.s hs) t1.mem (h1.bind fun w μ2 y H2 ρ2 t2 r2 h2 => ?_)
  refine ho ρ2 μ2 σ H2 u w x y _ t2.mem (t2.v r1) r2 (h2.bind fun z μ3 v3 H3 ρ3 t3 r3 h3 => ?_)
  split at h3
  · cases r3
    refine ⟨true, rfl, ?_⟩
    refine iteT (hc ρ3 μ3 s σ H3 _ (t3.s (t2.s (t1.s hs))) t3.mem (h3.bind fun z' μ4 v4 H4 ρ4 t4 r4 h4 => ?_))
    exact ho' ρ4 μ4 σ H4 _ _ _ _ Q t4.mem (t4.v (t3.v r2)) r4 h4
  · cases r3
    exact ⟨false, rfl, iteF (h3.ok (Stp.refl t3.mem) .bl)⟩
  · exact h3.elim
/-! ### truth, tests -/
def truU (μ : Mem) : U → Option Bool
  | .non => some false
  | .bl b => some b
  | .int i => some (i != 0)
  | .str s => if s.length ≤ lim then some ((s.length : Int) != 0) else none
  | .tup us => some (!us.isEmpty)
  | .ref i => match μ[i]? with
    | some (.lst us) => some (!us.isEmpty)
    | some (.dct kvs) => some (!kvs.isEmpty)
    | _ => none
  | .frl us => some (!us.isEmpty)
theorem RepVs.empty {K : PySem.W.Frag} {H : Hp} {ρ : List Addr} {us : List U} {vs : List V} (r : RepVs K H ρ us vs) : us.isEmpty = vs.isEmpty := by
  cases r <;> rfl
theorem map_empty {α β γ : Type} {f : α → γ} {g : β → γ} {xs : List α} {ys : List β} (h : xs.map f = ys.map g) : xs.isEmpty = ys.isEmpty := by
  cases xs <;> cases ys <;> simp_all
theorem truU_ok {K : PySem.W.Frag} {H : Hp} {ρ : List Addr} {μ : Mem} (hm : RepM K H ρ μ) {u : U} {v : V} {b : Bool} (r : RepV K H ρ u v) (e : truU μ u = some b) : TruV K v H b := by
  cases r with
  | non => cases e; rfl
  | bl => cases e; rfl
  | int => cases e; rfl
  | str hs =>
    simp only [truU] at e
    split at e
    · cases e; exact ⟨lim_le (by assumption), rfl⟩
    · cases e
  | tup hs hr =>
    cases e
    exact .inr (.inl ⟨_, hs, by rw [hr.empty]⟩)
  | ref hr =>
    obtain ⟨c, hc, rc⟩ := hm.at hr
    simp only [truU, hc] at e
    cases c with
    | lst us => obtain ⟨vs, q, r⟩ := rc; cases e; exact .inl ⟨vs, .inl (.inl q), by rw [r.empty]⟩
    | dct us => obtain ⟨vs, q, r, _⟩ := rc; cases e; exact .inr (.inr ⟨vs, q, by rw [map_empty r]⟩)
    | _ => cases e
  | frl hs hr =>
    cases e
    exact .inl ⟨_, hs.sq, by rw [hr.empty]⟩
def tst (a : FE) : FT := fun s μ => (a s μ).bind fun u μ1 => match truU μ1 u with
  | some b => .ok b μ1
  | none => .bad
theorem ct_val {a : Expr} {ma : FE} (ha : CE X W a ma) (he : ∀ whole, isTrue a X.env whole = (do let v ← whole; standAt a.pos; holding [v] (truthy v)) := by intro _; rfl) : CT X W a (tst ma) := by
  intro ρ μ s σ H Q hs hm h
  refine ⟨_, pt_truth pe_w he, ?_⟩
  refine ha ρ μ s σ H _ hs hm (h.bind fun u μ1 x H1 ρ1 t1 r1 h1 => ?_)
  cases e : truU μ1 u with
  | none => rw [e] at h1; exact h1.elim
  | some b =>
    rw [e] at h1
    exact ⟨b, truU_ok t1.mem r1 e, h1.ok (Stp.refl t1.mem) rfl⟩
/-- a comparison as a test -/
def tstB (a : FE) : FT := fun s μ => (a s μ).bind fun u μ1 => match u with
  | .bl b => .ok b μ1
  | _ => .bad
theorem ct_cmp {op : CmpOp} {a b : Expr} {f : U → U → Mem → Res U} {ma mb : FE} {pos : Pos} (ho : OpS X W (compareOp op) f) (ha : CE X W a ma) (hb : CE X W b mb) (hm0 : behindInMarks op b = false) : CT X W (.Compare a [op] [b] pos) (tstB (fOp f ma mb)) := by
  intro ρ μ s σ H Q hs hm h
  refine ⟨_, pt_cmpR op_w pe_w pe_w hm0, ?_⟩
  have h' : Post X W σ relB ρ H ((ma s μ).bind fun u μ1 => (mb s μ1).bind fun w μ2 => (f u w μ2).bind fun z μ3 => match z with
    | .bl b => .ok b μ3
    | _ => .bad) Q := by
    have e : tstB (fOp f ma mb) s μ = ((ma s μ).bind fun u μ1 => (mb s μ1).bind fun w μ2 => (f u w μ2).bind fun z μ3 => match z with
      | .bl b => .ok b μ3
      | _ => .bad) := by
      unfold tstB fOp
      cases ma s μ with
      | ok u μ1 =>
        show Res.bind (Res.bind (mb s μ1) _) _ = Res.bind (mb s μ1) _
        cases mb s μ1 <;> rfl
      | ex c m => rfl
      | bad => rfl
    rw [← e]; exact h
  refine ha ρ μ s σ H _ hs hm (h'.bind fun u μ1 x H1 ρ1 t1 r1 h1 => ?_)
  refine hb ρ1 μ1 s σ H1 _ (t1.s hs) t1.mem (h1.bind fun w μ2 y H2 ρ2 t2 r2 h2 => ?_)
  refine ho ρ2 μ2 σ H2 u w x y _ t2.mem (t2.v r1) r2 (h2.bind fun z μ3 v H3 ρ3 t3 r3 h3 => ?_)
  split at h3
  · cases r3
    exact ⟨_, rfl, h3.ok (Stp.refl t3.mem) rfl⟩
  · exact h3.elim
theorem ct_chain {op op' : CmpOp} {a b c : Expr} {f g : U → U → Mem → Res U} {ma mb mc : FE} {pos : Pos} (ho : OpS X W (compareOp op) f) (ho' : OpS X W (compareOp op') g) (ha : CE X W a ma) (hb : CE X W b mb) (hc : CE X W c mc)
    (hch : ∀ {r r' : R2} {ta tb tc : TE}, OpR X (compareOp op) r → OpR X (compareOp op') r' → PE X a ta → PE X b tb → PE X c tc → PT X (.Compare a [op, op'] [b, c] pos) (tTest (L2.tChain r r' ta tb tc))) : CT X W (.Compare a [op, op'] [b, c] pos) (tstB (fChain f g ma mb mc)) := by
  intro ρ μ s σ H Q hs hm h
  refine ⟨_, hch op_w op_w pe_w pe_w pe_w, ?_⟩
  have h' : Post X W σ relB ρ H ((ma s μ).bind fun x μ1 => (mb s μ1).bind fun y μ2 => (f x y μ2).bind fun z μ3 => match z with
    | .bl true => (mc s μ3).bind fun w μ4 => (g y w μ4).bind fun z μ3 => match z with
      | .bl b => .ok b μ3
      | _ => .bad
    | .bl false => .ok false μ3
    | _ => .bad) Q := by
    have e : tstB (fChain f g ma mb mc) s μ = ((ma s μ).bind fun x μ1 => (mb s μ1).bind fun y μ2 => (f x y μ2).bind fun z μ3 => match z with
      | .bl true => (mc s μ3).bind fun w μ4 => (g y w μ4).bind fun z μ3 => match z with
        | .bl b => .ok b μ3
        | _ => .bad
      | .bl false => .ok false μ3
      | _ => .bad) := by
      unfold tstB fChain
      cases ma s μ with
      | ok u μ1 =>
        show Res.bind (Res.bind (mb s μ1) _) _ = Res.bind (mb s μ1) _
        cases mb s μ1 with
        | ok w μ2 =>
          show Res.bind (Res.bind (f u w μ2) _) _ = Res.bind (f u w μ2) _
          cases f u w μ2 with
          | ok z μ3 =>
            cases z with
            | bl b =>
              cases b with
              | true =>
                show Res.bind (Res.bind (mc s μ3) _) _ = Res.bind (mc s μ3) _
                cases mc s μ3 <;> rfl
              | false => rfl
            | _ => rfl
          | ex c m => rfl
          | bad => rfl
        | ex c m => rfl
        | bad => rfl
      | ex c m => rfl
      | bad => rfl
    rw [← e]; exact h
  refine ha ρ μ s σ H _ hs hm (h'.bind fun u μ1 x H1 ρ1 t1 r1 h1 => ?_)
  refine hb ρ1 μ1 s σ H1 _ (t1.s hs) t1.mem (h1.bind fun w μ2 y H2 ρ2 t2 r2 h2 => ?_)
  refine ho ρ2 μ2 σ H2 u w x y _ t2.mem (t2.v r1) r2 (h2.bind fun z μ3 v3 H3 ρ3 t3 r3 h3 => ?_)
  split at h3
  · cases r3
    refine ⟨true, rfl, ?_⟩
    refine iteT (hc ρ3 μ3 s σ H3 _ (t3.s (t2.s (t1.s hs))) t3.mem (h3.bind fun z' μ4 v4 H4 ρ4 t4 r4 h4 => ?_))
    refine ho' ρ4 μ4 σ H4 _ _ _ _ _ t4.mem (t4.v (t3.v r2)) r4 (h4.bind fun z μ5 v H5 ρ5 t5 r5 h5 => ?_)
    split at h5
    · cases r5
      exact ⟨_, rfl, h5.ok (Stp.refl t5.mem) rfl⟩
    · exact h5.elim
  · cases r3
    exact ⟨false, rfl, iteF ⟨false, rfl, h3.ok (Stp.refl t3.mem) rfl⟩⟩
  · exact h3.elim
def tNt (t : FT) : FT := fun s μ => (t s μ).bind fun b μ1 => .ok (!b) μ1
theorem ct_not {a : Expr} {ta : FT} {pos : Pos} (ha : CT X W a ta) : CT X W (.UnaryOp .Not a pos) (tNt ta) := by
  intro ρ μ s σ H Q hs hm h
  refine ⟨_, pt_not pt_w, ?_⟩
  refine ha ρ μ s σ H _ hs hm (h.bind fun b μ1 x H1 ρ1 t1 r1 h1 => ?_)
  cases r1
  exact h1.ok (Stp.refl t1.mem) rfl
def tAn (t u : FT) : FT := fun s μ => (t s μ).bind fun b μ1 => match b with
  | true => u s μ1
  | false => .ok false μ1
def tOr' (t u : FT) : FT := fun s μ => (t s μ).bind fun b μ1 => match b with
  | true => .ok true μ1
  | false => u s μ1
/-- chains of and, or -/
def WW (X : Cx) (e : Expr) : TT := fun σ H Q => ∃ t, PW X e t ∧ t σ H Q
theorem pw_w {X : Cx} {e : Expr} : PW X e (WW X e) := ⟨fun wh pins s σ H Q I ⟨_, h, q⟩ => h.run wh pins s σ H Q I q⟩
def CW (X : Cx) (W : WX) (e : Expr) (m : FT) : Prop := ∀ ρ μ s σ H Q, RepS X.K H ρ s σ → RepM X.K H ρ μ → Post X W σ relB ρ H (m s μ) Q → WW X e σ H Q
theorem CW.ct {e : Expr} {m : FT} (h : CW X W e m) : CT X W e m := fun ρ μ s σ H Q hs hm p => by
  obtain ⟨t, h1, h2⟩ := h ρ μ s σ H Q hs hm p
  exact ⟨t, h1.pt, h2⟩
theorem cw_and1 {a : Expr} {ta : FT} {pos : Pos} (ha : CT X W a ta) : CW X W (.BoolOp .And [a] pos) ta := fun ρ μ s σ H Q hs hm p => ⟨_, pw_and1 pt_w, ha ρ μ s σ H Q hs hm p⟩
theorem cw_or1 {a : Expr} {ta : FT} {pos : Pos} (ha : CT X W a ta) : CW X W (.BoolOp .Or [a] pos) ta := fun ρ μ s σ H Q hs hm p => ⟨_, pw_or1 pt_w, ha ρ μ s σ H Q hs hm p⟩
theorem cw_and {a b : Expr} {rest : List Expr} {ta tb : FT} {pos : Pos} (ha : CT X W a ta) (hb : CW X W (.BoolOp .And (b :: rest) pos) tb) : CW X W (.BoolOp .And (a :: b :: rest) pos) (tAn ta tb) := by
  intro ρ μ s σ H Q hs hm h
  refine ⟨_, pw_and pt_w pw_w, ?_⟩
  refine ha ρ μ s σ H _ hs hm (h.bind fun b μ1 x H1 ρ1 t1 r1 h1 => ?_)
  cases r1
  cases b with
  | true => exact iteT (hb ρ1 μ1 s σ H1 Q (t1.s hs) t1.mem h1)
  | false => exact iteF (h1.ok (Stp.refl t1.mem) rfl)
theorem cw_or {a b : Expr} {rest : List Expr} {ta tb : FT} {pos : Pos} (ha : CT X W a ta) (hb : CW X W (.BoolOp .Or (b :: rest) pos) tb) : CW X W (.BoolOp .Or (a :: b :: rest) pos) (tOr' ta tb) := by
  intro ρ μ s σ H Q hs hm h
  refine ⟨_, pw_or pt_w pw_w, ?_⟩
  refine ha ρ μ s σ H _ hs hm (h.bind fun b μ1 x H1 ρ1 t1 r1 h1 => ?_)
  cases r1
  cases b with
  | true => exact iteT (h1.ok (Stp.refl t1.mem) rfl)
  | false => exact iteF (hb ρ1 μ1 s σ H1 Q (t1.s hs) t1.mem h1)
/-- as values: all but the last are True or False -/
def fAnd (a b : FE) : FE := fun s μ => (a s μ).bind fun u μ1 => match u with
  | .bl true => b s μ1
  | .bl false => .ok (.bl false) μ1
  | _ => .bad
def fOr (a b : FE) : FE := fun s μ => (a s μ).bind fun u μ1 => match u with
  | .bl true => .ok (.bl true) μ1
  | .bl false => b s μ1
  | _ => .bad
theorem ce_one {op : BoolOp} {a : Expr} {ma : FE} {pos : Pos} (ha : CE X W a ma) : CE X W (.BoolOp op [a] pos) ma := fun ρ μ s σ H Q hs hm p => ⟨_, pe_one pe_w, ha ρ μ s σ H Q hs hm p⟩
theorem ce_and {a b : Expr} {rest : List Expr} {ma mb : FE} {pos : Pos} (ha : CE X W a ma) (hb : CE X W (.BoolOp .And (b :: rest) pos) mb) : CE X W (.BoolOp .And (a :: b :: rest) pos) (fAnd ma mb) := by
  intro ρ μ s σ H Q hs hm h
  refine ⟨_, pe_and pe_w pe_w, ?_⟩
  refine ha ρ μ s σ H _ hs hm (h.bind fun b μ1 x H1 ρ1 t1 r1 h1 => ?_)
  split at h1
  · cases r1
    exact ⟨_, rfl, iteT (hb ρ1 μ1 s σ H1 Q (t1.s hs) t1.mem h1)⟩
  · cases r1
    exact ⟨_, rfl, iteF (h1.ok (Stp.refl t1.mem) .bl)⟩
  · exact h1.elim
def fNot (a : FE) : FE := fun s μ => (a s μ).bind fun u μ1 => match u with
  | .bl b => .ok (.bl (!b)) μ1
  | _ => .bad
def fIf (t : FT) (a b : FE) : FE := fun s μ => (t s μ).bind fun c μ1 => match c with
  | true => a s μ1
  | false => b s μ1
theorem ce_if {c a b : Expr} {tc : FT} {ma mb : FE} {pos : Pos} (hc : CT X W c tc) (ha : CE X W a ma) (hb : CE X W b mb) : CE X W (.IfExp c a b pos) (fIf tc ma mb) := by
  intro ρ μ s σ H Q hs hm h
  refine ⟨_, pe_ifExp pt_w pe_w pe_w, ?_⟩
  refine hc ρ μ s σ H _ hs hm (h.bind fun b μ1 x H1 ρ1 t1 r1 h1 => ?_)
  cases r1
  cases b with
  | true => exact iteT (ha ρ1 μ1 s σ H1 Q (t1.s hs) t1.mem h1)
  | false => exact iteF (hb ρ1 μ1 s σ H1 Q (t1.s hs) t1.mem h1)
/-! ### arguments, displays -/
def aNil : FA := fun _ μ => .ok [] μ
def aCons (a : FE) (r : FA) : FA := fun s μ => (a s μ).bind fun u μ1 => (r s μ1).bind fun us μ2 => .ok (u :: us) μ2
theorem ca_nil : CA X W [] aNil := fun ρ μ s σ H Q hs hm h => ⟨_, pa_nil, h.ok (Stp.refl hm) .nil⟩
theorem ca_cons {e : Expr} {es : List Expr} {me : FE} {mr : FA} (he : CE X W e me) (hr : CA X W es mr) (hse : starEach (e :: es) X.env = (false, eval e X.env) :: starEach es X.env := by rfl) : CA X W (e :: es) (aCons me mr) := by
  intro ρ μ s σ H Q hs hm h
  refine ⟨_, pa_cons pe_w pa_w hse, ?_⟩
  refine he ρ μ s σ H _ hs hm (h.bind fun u μ1 x H1 ρ1 t1 r1 h1 => ?_)
  refine hr ρ1 μ1 s σ H1 _ (t1.s hs) t1.mem (h1.bind fun us μ2 xs H2 ρ2 t2 r2 h2 => ?_)
  exact h2.ok (Stp.refl t2.mem) (.cons (t2.v r1) r2)
def fTup (a : FA) : FE := fun s μ => (a s μ).bind fun us μ1 => if us.length ≤ lim then .ok (.tup us) μ1 else .bad
def fLst (a : FA) : FE := fun s μ => (a s μ).bind fun us μ1 => if us.length ≤ lim then .ok (.ref μ1.length) (μ1 ++ [.lst us]) else .bad
theorem ce_tup {es : List Expr} {ma : FA} {x1 pos} (ha : CA X W es ma) : CE X W (.Tuple es x1 pos) (fTup ma) := by
  intro ρ μ s σ H Q hs hm h
  refine ⟨_, pe_tup pa_w, ?_⟩
  refine ha ρ μ s σ H _ hs hm (h.bind fun us μ1 vs H1 ρ1 t1 r1 h1 => ?_)
  split at h1
  · exact ⟨by rw [← RepVs.length r1]; exact lim_le (by assumption), fun p np => h1.ok (Stp.temp t1.mem np) (newT np r1)⟩
  · exact h1.elim
theorem ce_lst {es : List Expr} {ma : FA} {pos : Pos} (ha : CA X W es ma) : CE X W (.List es pos) (fLst ma) := by
  intro ρ μ s σ H Q hs hm h
  refine ⟨_, pe_lst pa_w, ?_⟩
  refine ha ρ μ s σ H _ hs hm (h.bind fun us μ1 vs H1 ρ1 t1 r1 h1 => ?_)
  split at h1
  · exact ⟨by rw [← RepVs.length r1]; exact lim_le (by assumption), fun p np => h1.ok (newL t1.mem np r1) (refN t1.mem)⟩
  · exact h1.elim
end
end Dg
/-! Dg3: calls of built-ins, subscripts, slices, dicts, methods. -/
namespace Dg
open PySem PySem.Spec PyProof.Rows L2
section
variable {X : Cx} {W : WX} {k : Nat}
/-! ### calls of built-ins by value -/
def CallW (X : Cx) (f : Value) : List V → Hp → VK → Prop := fun vs H Q => ∃ r, CallR X f r ∧ r vs H Q
theorem call_w {f : Value} : CallR X f (CallW X f) := fun pins s σ H xs us Q I rx ⟨_, h, q⟩ => h pins s σ H xs us Q I rx q
def CallS (X : Cx) (W : WX) (f : Value) (g : List U → Mem → Res U) : Prop := ∀ ρ μ σ H us vs Q, RepM X.K H ρ μ → RepVs X.K H ρ us vs → Post X W σ relV ρ H (g us μ) Q → CallW X f vs H Q
def fCall (g : List U → Mem → Res U) (a : FA) : FE := fun s μ => (a s μ).bind g
theorem ce_callB {id : String} {x : Str} {e : Expr} {es : List Expr} {ma : FA} {g : List U → Mem → Res U} {p pos : Pos} (hc : CallS X W (.builtin id) g) (hg : Gl X x) (hm : X.mg x = none) (hv : bootBuiltins x = some (.builtin id)) (ha : CA X W (e :: es) ma)
    (hp : ∀ {r : List V → Hp → VK → Prop} {t : TA}, CallR X (.builtin id) r → PA X (e :: es) t → PE X (.Call (.Name x p) (e :: es) [] pos) (tCB r t)) : CE X W (.Call (.Name x p) (e :: es) [] pos) (fCall g ma) := by
  intro ρ μ s σ H Q hs hm' h
  refine ⟨_, hp call_w pa_w, ?_⟩
  exact ha ρ μ s σ H _ hs hm' (h.bind fun us μ1 vs H1 ρ1 t1 r1 h1 => hc ρ1 μ1 σ H1 us vs Q t1.mem r1 h1)
theorem ce_callT {T : String} {x : Str} {e : Expr} {es : List Expr} {ma : FA} {g : List U → Mem → Res U} {p pos : Pos} (hc : CallS X W (.type T) g) (hg : Gl X x) (hm : X.mg x = none) (hv : bootBuiltins x = some (.type T)) (ha : CA X W (e :: es) ma)
    (hp : ∀ {r : List V → Hp → VK → Prop} {t : TA}, CallR X (.type T) r → PA X (e :: es) t → PE X (.Call (.Name x p) (e :: es) [] pos) (tCB r t)) : CE X W (.Call (.Name x p) (e :: es) [] pos) (fCall g ma) := by
  intro ρ μ s σ H Q hs hm' h
  refine ⟨_, hp call_w pa_w, ?_⟩
  exact ha ρ μ s σ H _ hs hm' (h.bind fun us μ1 vs H1 ρ1 t1 r1 h1 => hc ρ1 μ1 σ H1 us vs Q t1.mem r1 h1)
def seqU (μ : Mem) : U → Option (List U)
  | .tup us => some us
  | .ref i => match μ[i]? with
    | some (.lst us) => some us
    | _ => none
  | .frl us => some us
  | _ => none
theorem seqU_ok {K : PySem.W.Frag} {H : Hp} {ρ : List Addr} {μ : Mem} (hm : RepM K H ρ μ) {u : U} {v : V} {us : List U} (r : RepV K H ρ u v) (e : seqU μ u = some us) : ∃ a vs, v = .ref a ∧ (SqL K H a vs ∨ SqT K H a vs) ∧ RepVs K H ρ us vs := by
  cases r with
  | tup hs hr => cases e; exact ⟨_, _, rfl, .inr hs, hr⟩
  | ref hr =>
    obtain ⟨c, hc, rc⟩ := hm.at hr
    simp only [seqU, hc] at e
    cases c with
    | lst us => obtain ⟨vs, q, r⟩ := rc; cases e; exact ⟨_, vs, rfl, .inl (.inl (.inl q)), r⟩
    | _ => cases e
  | frl hs hr => cases e; exact ⟨_, _, rfl, .inl hs.sq, hr⟩
  | _ => cases e
/-- a list that stands for itself -/
def lstU (μ : Mem) : U → Option (List U)
  | .ref i => match μ[i]? with
    | some (.lst us) => some us
    | _ => none
  | .frl us => some us
  | _ => none
theorem lstU_ok {K : PySem.W.Frag} {H : Hp} {ρ : List Addr} {μ : Mem} (hm : RepM K H ρ μ) {u : U} {v : V} {us : List U} (r : RepV K H ρ u v) (e : lstU μ u = some us) : ∃ a vs, v = .ref a ∧ SqL K H a vs ∧ RepVs K H ρ us vs := by
  cases r with
  | ref hr =>
    obtain ⟨c, hc, rc⟩ := hm.at hr
    simp only [lstU, hc] at e
    cases c with
    | lst us => obtain ⟨vs, q, r⟩ := rc; cases e; exact ⟨_, vs, rfl, .inl (.inl q), r⟩
    | _ => cases e
  | frl hs hr => cases e; exact ⟨_, _, rfl, hs.sq, hr⟩
  | _ => cases e
def lenU (μ : Mem) : U → Option Nat
  | .str z => if z.length ≤ lim then some z.length else none
  | .tup us => some us.length
  | .ref i => match μ[i]? with
    | some (.lst us) => some us.length
    | some (.dct us) => some us.length
    | _ => none
  | .frl us => some us.length
  | _ => none
def bLen (us : List U) (μ : Mem) : Res U := match us with
  | [u] => match lenU μ u with
    | some n => .ok (.int (n : Int)) μ
    | none => .bad
  | _ => .bad
theorem cs_len : CallS X W (.builtin "len") bLen := by
  intro ρ μ σ H us vs Q hm r h
  unfold bLen at h
  split at h
  · rename_i u
    cases r with
    | cons ru r0 =>
      cases r0
      cases e : lenU μ u with
      | none => rw [e] at h; exact h.elim
      | some n =>
        rw [e] at h
        have q : ∀ H', H' = H → Q (.int (n : Int)) H' := fun H' e => e ▸ h.ok (Stp.refl hm) .int
        cases ru with
        | str hs =>
          simp only [lenU] at e
          split at e
          · cases e; exact ⟨_, call_len, _, _, rfl, ⟨lim_le (by assumption), rfl⟩, q _ rfl⟩
          · cases e
        | tup hs hr => cases e; exact ⟨_, call_len, _, _, rfl, .inr ⟨_, hs, hr.length⟩, q _ rfl⟩
        | frl hs hr => cases e; exact ⟨_, call_len, _, _, rfl, .inl ⟨_, hs.sq, hr.length⟩, q _ rfl⟩
        | ref hr =>
          obtain ⟨c, hc, rc⟩ := hm.at hr
          simp only [lenU, hc] at e
          cases c with
          | lst us => obtain ⟨vs, q1, r⟩ := rc; cases e; exact ⟨_, call_len, _, _, rfl, .inl ⟨_, .inl (.inl q1), r.length⟩, q _ rfl⟩
          | dct us =>
            obtain ⟨vs, q1, r, _⟩ := rc
            cases e
            refine ⟨_, call_lenD, _, vs, rfl, q1, ?_⟩
            have : vs.length = us.length := by have := congrArg List.length r; simpa using this
            rw [this]
            exact q _ rfl
          | _ => cases e
        | _ => cases e
  · exact h.elim
def bInt (us : List U) (μ : Mem) : Res U := match us with
  | [.int i] => .ok (.int i) μ
  | [.bl b] => .ok (.int (if b then 1 else 0)) μ
  | _ => .bad
theorem cs_int : CallS X W (.type "int") bInt := by
  intro ρ μ σ H us vs Q hm r h
  unfold bInt at h
  split at h
  · cases r with
    | cons ru r0 => cases r0; cases ru; exact ⟨_, call_int1, .inl ⟨_, rfl, h.ok (Stp.refl hm) .int⟩⟩
  · cases r with
    | cons ru r0 => cases r0; cases ru; exact ⟨_, call_int1, .inr ⟨_, rfl, h.ok (Stp.refl hm) .int⟩⟩
  · exact h.elim
def bAbs (us : List U) (μ : Mem) : Res U := match us with
  | [.int i] => .ok (.int (if i < 0 then -i else i)) μ
  | _ => .bad
theorem cs_abs : CallS X W (.builtin "abs") bAbs := by
  intro ρ μ σ H us vs Q hm r h
  unfold bAbs at h
  split at h
  · cases r with
    | cons ru r0 => cases r0; cases ru; exact ⟨_, call_abs, _, rfl, h.ok (Stp.refl hm) .int⟩
  · exact h.elim
def intsU : List U → Option (List Int)
  | [] => some []
  | .int i :: us => (intsU us).map (i :: ·)
  | _ :: _ => none
theorem intsU_ok : ∀ {us : List U} {is : List Int}, intsU us = some is → us = is.map U.int
  | [], _, e => by cases e; rfl
  | .int i :: us, _, e => by
    simp only [intsU, Option.map_eq_some_iff] at e
    obtain ⟨a, h, rfl⟩ := e
    rw [intsU_ok h]; rfl
  | .non :: us, _, e => by cases e
  | .bl _ :: us, _, e => by cases e
  | .str _ :: us, _, e => by cases e
  | .tup _ :: us, _, e => by cases e
  | .ref _ :: us, _, e => by cases e
  | .frl _ :: us, _, e => by cases e
def blsU : List U → Option (List Bool)
  | [] => some []
  | .bl i :: us => (blsU us).map (i :: ·)
  | _ :: _ => none
theorem blsU_ok : ∀ {us : List U} {is : List Bool}, blsU us = some is → us = is.map U.bl
  | [], _, e => by cases e; rfl
  | .bl i :: us, _, e => by
    simp only [blsU, Option.map_eq_some_iff] at e
    obtain ⟨a, h, rfl⟩ := e
    rw [blsU_ok h]; rfl
  | .non :: us, _, e => by cases e
  | .str _ :: us, _, e => by cases e
  | .int _ :: us, _, e => by cases e
  | .tup _ :: us, _, e => by cases e
  | .ref _ :: us, _, e => by cases e
  | .frl _ :: us, _, e => by cases e
def maxI : Int → List Int → Int
  | m, [] => m
  | m, x :: xs => maxI (if x > m then x else m) xs
def minI : Int → List Int → Int
  | m, [] => m
  | m, x :: xs => minI (if x < m then x else m) xs
theorem maxI_ok : ∀ (xs : List Int) (m : Int), (maxI m xs = m ∨ maxI m xs ∈ xs) ∧ m ≤ maxI m xs ∧ ∀ y ∈ xs, y ≤ maxI m xs
  | [], m => ⟨.inl rfl, Int.le_refl _, by simp⟩
  | x :: xs, m => by
    obtain ⟨h1, h2, h3⟩ := maxI_ok xs (if x > m then x else m)
    refine ⟨?_, ?_, fun y hy => ?_⟩
    · rcases h1 with h1 | h1
      · show maxI (if x > m then x else m) xs = m ∨ _
        rw [h1]
        by_cases c : x > m
        · rw [if_pos c]; exact .inr (by show maxI (if x > m then x else m) xs ∈ x :: xs; rw [h1, if_pos c]; exact List.mem_cons_self)
        · rw [if_neg c]; exact .inl rfl
      · exact .inr (List.mem_cons_of_mem _ h1)
    · show m ≤ maxI (if x > m then x else m) xs
      by_cases c : x > m
      · rw [if_pos c] at h2 ⊢; omega
      · rw [if_neg c] at h2 ⊢; omega
    · show y ≤ maxI (if x > m then x else m) xs
      rcases List.mem_cons.mp hy with e | e
      · subst e
        by_cases c : y > m
        · rw [if_pos c] at h2 ⊢; omega
        · rw [if_neg c] at h2 ⊢; omega
      · exact h3 y e
theorem minI_ok : ∀ (xs : List Int) (m : Int), (minI m xs = m ∨ minI m xs ∈ xs) ∧ minI m xs ≤ m ∧ ∀ y ∈ xs, minI m xs ≤ y
  | [], m => ⟨.inl rfl, Int.le_refl _, by simp⟩
  | x :: xs, m => by
    obtain ⟨h1, h2, h3⟩ := minI_ok xs (if x < m then x else m)
    refine ⟨?_, ?_, fun y hy => ?_⟩
    · rcases h1 with h1 | h1
      · show minI (if x < m then x else m) xs = m ∨ _
        rw [h1]
        by_cases c : x < m
        · rw [if_pos c]; exact .inr (by show minI (if x < m then x else m) xs ∈ x :: xs; rw [h1, if_pos c]; exact List.mem_cons_self)
        · rw [if_neg c]; exact .inl rfl
      · exact .inr (List.mem_cons_of_mem _ h1)
    · show minI (if x < m then x else m) xs ≤ m
      by_cases c : x < m
      · rw [if_pos c] at h2 ⊢; omega
      · rw [if_neg c] at h2 ⊢; omega
    · show minI (if x < m then x else m) xs ≤ y
      rcases List.mem_cons.mp hy with e | e
      · subst e
        by_cases c : y < m
        · rw [if_pos c] at h2 ⊢; omega
        · rw [if_neg c] at h2 ⊢; omega
      · exact h3 y e
def bMax (us : List U) (μ : Mem) : Res U := match us with
  | [.int i, .int j] => .ok (.int (if j > i then j else i)) μ
  | [.ref r] => match (lstU μ (.ref r)).bind intsU with
    | some (m :: is) => .ok (.int (maxI m is)) μ
    | _ => .bad
  | _ => .bad
def bMin (us : List U) (μ : Mem) : Res U := match us with
  | [.int i, .int j] => .ok (.int (if j < i then j else i)) μ
  | [.ref r] => match (lstU μ (.ref r)).bind intsU with
    | some (m :: is) => .ok (.int (minI m is)) μ
    | _ => .bad
  | _ => .bad
theorem cs_max (hc : X.calm = true) : CallS X W (.builtin "max") bMax := by
  intro ρ μ σ H us vs Q hm r h
  unfold bMax at h
  split at h
  · cases r with
    | cons ru r0 => cases r0 with | cons rw' r1 => cases r1; cases ru; cases rw'; exact ⟨_, call_max2 hc, _, _, rfl, h.ok (Stp.refl hm) .int⟩
  · rename_i i
    cases r with
    | cons ru r0 =>
      cases r0
      split at h
      · rename_i m is e
        obtain ⟨us, e1, e2⟩ := Option.bind_eq_some_iff.mp e
        obtain ⟨a, vs, rfl, q1, r1⟩ := lstU_ok hm ru e1
        rw [intsU_ok e2] at r1
        rw [r1.ints] at q1
        refine ⟨_, cr_max hc, a, m :: is, rfl, q1, by simp, fun z hz hle => ?_⟩
        have ez : z = maxI m is := by
          obtain ⟨h1, h2, h3⟩ := maxI_ok is m
          have a1 : maxI m is ≤ z := by
            rcases h1 with h1 | h1
            · rw [h1]; exact hle m (by simp)
            · exact hle _ (List.mem_cons_of_mem _ h1)
          have a2 : z ≤ maxI m is := by
            rcases List.mem_cons.mp hz with e | e
            · rw [e]; exact h2
            · exact h3 z e
          omega
        rw [ez]
        exact h.ok (Stp.refl hm) .int
      · exact h.elim
  · exact h.elim
def bAll (us : List U) (μ : Mem) : Res U := match us with
  | [.ref r] => match (lstU μ (.ref r)).bind blsU with
    | some is => .ok (.bl (is.all id)) μ
    | _ => .bad
  | _ => .bad
theorem cs_all (hc : X.calm = true) : CallS X W (.builtin "all") bAll := by
  intro ρ μ σ H us vs Q hm r h
  unfold bAll at h
  split at h
  · cases r with
    | cons ru r0 =>
      cases r0
      split at h
      · rename_i is e
        obtain ⟨us, e1, e2⟩ := Option.bind_eq_some_iff.mp e
        obtain ⟨a, vs, rfl, q1, r1⟩ := lstU_ok hm ru e1
        rw [blsU_ok e2] at r1
        rw [r1.bls] at q1
        exact ⟨_, cr_all hc, a, is, rfl, q1, h.ok (Stp.refl hm) .bl⟩
      · exact h.elim
  · exact h.elim
def bList (us : List U) (μ : Mem) : Res U := match us with
  | [u] => match seqU μ u with
    | some xs => .ok (.ref μ.length) (μ ++ [.lst xs])
    | none => .bad
  | _ => .bad
theorem cs_list : CallS X W (.type "list") bList := by
  intro ρ μ σ H us vs Q hm r h
  unfold bList at h
  split at h
  · cases r with
    | cons ru r0 =>
      cases r0
      split at h
      · rename_i xs e
        obtain ⟨a, vs, rfl, q1, r1⟩ := seqU_ok hm ru e
        exact ⟨_, call_list_of, a, vs, rfl, q1, fun p np => h.ok (newL hm np r1) (refN hm)⟩
      · exact h.elim
  · exact h.elim
def bTuple (us : List U) (μ : Mem) : Res U := match us with
  | [u] => match seqU μ u with
    | some xs => .ok (.tup xs) μ
    | none => .bad
  | _ => .bad
theorem cs_tuple : CallS X W (.type "tuple") bTuple := by
  intro ρ μ σ H us vs Q hm r h
  unfold bTuple at h
  split at h
  · cases r with
    | cons ru r0 =>
      cases r0
      split at h
      · rename_i xs e
        obtain ⟨a, vs, rfl, q1, r1⟩ := seqU_ok hm ru e
        refine ⟨_, call_tuple_of, a, vs, rfl, ?_⟩
        rcases q1 with q1 | q1
        · exact .inl ⟨q1, fun p np => h.ok (Stp.temp hm np) (newT np r1)⟩
        · exact .inr ⟨q1, h.ok (Stp.refl hm) (.tup q1 r1)⟩
      · exact h.elim
  · exact h.elim
def keyOk : Key → Bool
  | .inl _ => true
  | .inr x => PyData.strOk x
end
end Dg
/-! Dg4: subscripts, slices, dicts, isinstance, methods. -/
namespace Dg
open PySem PySem.Spec PyProof.Rows L2
/-! ### dicts by their pairs -/
def valU (kus : List (Key × U)) (k : Key) : Option U := (kus.find? fun kv => decide (kv.1 = k)).map (·.2)
def putU (kus : List (Key × U)) (k : Key) (u : U) : List (Key × U) :=
  if (kus.any fun kv => decide (kv.1 = k)) = true then kus.map (fun kv => if kv.1 = k then (kv.1, u) else kv) else kus ++ [(k, u)]
structure RepKV (K : PySem.W.Frag) (H : Hp) (ρ : List Addr) (kus : List (Key × U)) (kvs : List (Key × V)) : Prop where
  keys : kvs.map (·.1) = kus.map (·.1)
  vals : RepVs K H ρ (kus.map (·.2)) (kvs.map (·.2))
section
variable {K : PySem.W.Frag} {H : Hp} {ρ : List Addr}
theorem RepKV.nil : RepKV K H ρ [] [] := ⟨rfl, .nil⟩
theorem RepKV.cons {k : Key} {u : U} {v : V} {kus : List (Key × U)} {kvs : List (Key × V)} (r : RepV K H ρ u v) (h : RepKV K H ρ kus kvs) : RepKV K H ρ ((k, u) :: kus) ((k, v) :: kvs) := ⟨by simp [h.keys], .cons r h.vals⟩
theorem RepKV.uncons {p : Key × U} {kus : List (Key × U)} {ws : List (Key × V)} (h : RepKV K H ρ (p :: kus) ws) : ∃ v kvs, ws = (p.1, v) :: kvs ∧ RepV K H ρ p.2 v ∧ RepKV K H ρ kus kvs := by
  obtain ⟨h1, h2⟩ := h
  cases ws with
  | nil => simp at h1
  | cons w ws =>
    simp only [List.map_cons, List.cons.injEq] at h1
    rw [List.map_cons, List.map_cons] at h2
    cases h2 with
    | cons r1 r2 => exact ⟨w.2, ws, by rw [← h1.1], r1, h1.2, r2⟩
theorem RepKV.unnil {ws : List (Key × V)} (h : RepKV K H ρ [] ws) : ws = [] := by
  have := h.keys
  simpa using this
theorem RepKV.length {kus : List (Key × U)} {kvs : List (Key × V)} (h : RepKV K H ρ kus kvs) : kvs.length = kus.length := by
  have := congrArg List.length h.keys
  simpa using this
theorem RepKV.mono {H' : Hp} {ρ' : List Addr} {kus : List (Key × U)} {kvs : List (Key × V)} (t : TX H H') (e : Ext ρ ρ') (h : RepKV K H ρ kus kvs) : RepKV K H' ρ' kus kvs := ⟨h.keys, h.vals.mono t e⟩
theorem RepKV.val {k : Key} : ∀ {kus : List (Key × U)} {kvs : List (Key × V)}, RepKV K H ρ kus kvs → (∀ u, valU kus k = some u → ∃ v, valV kvs k = some v ∧ RepV K H ρ u v) ∧ (valU kus k = none → valV kvs k = none)
  | [], _, h => by rw [h.unnil]; exact ⟨fun u e => by simp [valU] at e, fun _ => rfl⟩
  | p :: kus, ws, h => by
    obtain ⟨v, kvs, rfl, r, t⟩ := h.uncons
    have ih := RepKV.val (k := k) t
    by_cases e : p.1 = k
    · refine ⟨fun u hu => ⟨v, valV_pos e, ?_⟩, fun hn => ?_⟩
      · simp [valU, e] at hu
        exact hu ▸ r
      · simp [valU, e] at hn
    · rw [valV_neg (p := (p.1, v)) e]
      have : valU (p :: kus) k = valU kus k := by simp [valU, e]
      rw [this]
      exact ih
theorem RepKV.any {k : Key} {kus : List (Key × U)} {kvs : List (Key × V)} (h : RepKV K H ρ kus kvs) : (kvs.any fun kv => decide (kv.1 = k)) = (kus.any fun kv => decide (kv.1 = k)) := by
  have e1 : (kvs.any fun kv => decide (kv.1 = k)) = (kvs.map (·.1)).any fun x => decide (x = k) := by simp [List.any_map, Function.comp_def]
  have e2 : (kus.any fun kv => decide (kv.1 = k)) = (kus.map (·.1)).any fun x => decide (x = k) := by simp [List.any_map, Function.comp_def]
  rw [e1, e2, h.keys]
theorem RepKV.mapPut {k : Key} {u : U} {v : V} (r : RepV K H ρ u v) : ∀ {kus : List (Key × U)} {kvs : List (Key × V)}, RepKV K H ρ kus kvs →
    RepKV K H ρ (kus.map fun kv => if kv.1 = k then (kv.1, u) else kv) (kvs.map fun kv => if kv.1 = k then (kv.1, v) else kv)
  | [], _, h => by rw [h.unnil]; exact .nil
  | p :: kus, ws, h => by
    obtain ⟨v0, kvs, rfl, r0, t⟩ := h.uncons
    have ih := RepKV.mapPut (k := k) r t
    rw [List.map_cons, List.map_cons]
    by_cases e : p.1 = k
    · simp only [e, if_true]; exact ih.cons r
    · simp only [e, if_false]; exact ih.cons (k := p.1) r0
theorem RepKV.snoc {k : Key} {u : U} {v : V} (r : RepV K H ρ u v) {kus : List (Key × U)} {kvs : List (Key × V)} (h : RepKV K H ρ kus kvs) : RepKV K H ρ (kus ++ [(k, u)]) (kvs ++ [(k, v)]) := ⟨by simp [h.keys], by
  rw [List.map_append, List.map_append]; exact h.vals.append (.one r)⟩
theorem RepKV.put {k : Key} {u : U} {v : V} (r : RepV K H ρ u v) {kus : List (Key × U)} {kvs : List (Key × V)} (h : RepKV K H ρ kus kvs) : RepKV K H ρ (putU kus k u) (putK kvs k v) := by
  unfold putU putK
  rw [h.any]
  split
  · exact h.mapPut r
  · exact h.snoc r
theorem dct_of {μ : Mem} (hm : RepM K H ρ μ) {i : Nat} {a : Addr} {kus : List (Key × U)} (e : ρ[i]? = some a) (h : μ[i]? = some (.dct kus)) : ∃ kvs, H a = some (.dK kvs) ∧ RepKV K H ρ kus kvs := by
  obtain ⟨kvs, q, w, r⟩ := hm.get e h
  exact ⟨kvs, q, w, r⟩
theorem newD {μ : Mem} (hm : RepM K H ρ μ) {p : Addr} {kus : List (Key × U)} {kvs : List (Key × V)} (np : H p = none) (r : RepKV K H ρ kus kvs) : Stp K ρ H (ρ ++ [p]) (upd H p (.dK kvs)) (μ ++ [.dct kus]) :=
  Stp.new hm np ⟨kvs, upd_same, r.keys, (r.mono (TX.new np) (Ext.snoc ρ p)).vals⟩
theorem putD {μ : Mem} (hm : RepM K H ρ μ) {i : Nat} {a : Addr} {kus kus' : List (Key × U)} {kvs' : List (Key × V)} (e : ρ[i]? = some a) (h : μ[i]? = some (.dct kus)) (r : RepKV K H ρ kus' kvs') : Stp K ρ H ρ (upd H a (.dK kvs')) (μ.set i (.dct kus')) := by
  have t : TX H (upd H a (.dK kvs')) := (hm.get e h).tx rfl
  exact Stp.put hm e h rfl ⟨kvs', upd_same, r.keys, (r.mono t (Ext.refl _)).vals⟩
theorem putL {μ : Mem} (hm : RepM K H ρ μ) {i : Nat} {a : Addr} {us us' : List U} {vs' : List V} (e : ρ[i]? = some a) (h : μ[i]? = some (.lst us)) (r : RepVs K H ρ us' vs') : Stp K ρ H ρ (upd H a (.lst vs')) (μ.set i (.lst us')) := by
  have t : TX H (upd H a (.lst vs')) := (hm.get e h).tx rfl
  exact Stp.put hm e h rfl ⟨vs', upd_same, r.mono t (Ext.refl _)⟩
end
def keyU : U → Option Key
  | .int i => some (.inl i)
  | .str x => some (.inr x)
  | _ => none
theorem keyU_ok {K : PySem.W.Frag} {H : Hp} {ρ : List Addr} {u : U} {v : V} {k : Key} (r : RepV K H ρ u v) (e : keyU u = some k) : v = kV k := by
  cases r with
  | int => cases e; rfl
  | str _ => cases e; rfl
  | _ => cases e
section
variable {X : Cx} {W : WX} {k : Nat}
/-! ### subscripts -/
def opt {α : Type} (o : Option α) (μ : Mem) : Res α := match o with
  | some a => .ok a μ
  | none => .bad
def dctU (μ : Mem) : U → Option (List (Key × U))
  | .ref i => match μ[i]? with
    | some (.dct kus) => some kus
    | some (.lst _) => none
    | some (.fdc _) => none
    | some (.dtt _) => none
    | some (.fdt _) => none
    | some (.dnt _) => none
    | some (.obj _ _) => none
    | none => none
  | _ => none
def ixU (u w : U) (μ : Mem) : Res U := match dctU μ u with
  | some kus => match keyU w with
    | some k => opt (valU kus k) μ
    | none => .bad
  | none => match u, w with
    | .str z, .int i => if z.length ≤ lim then opt ((atI z.cps.toList i).map fun c => .str ⟨#[c]⟩) μ else .bad
    | u, .int i => match seqU μ u with
      | some us => opt (atI us i) μ
      | none => .bad
    | _, _ => .bad
theorem RepVs.atI {K : PySem.W.Frag} {H : Hp} {ρ : List Addr} {us : List U} {vs : List V} {i : Int} {u : U} (r : RepVs K H ρ us vs) (e : atI us i = some u) : ∃ v, L2.atI vs i = some v ∧ RepV K H ρ u v := by
  unfold L2.atI at *
  rw [← r.length]
  obtain ⟨j, h1, h2⟩ := Option.bind_eq_some_iff.mp e
  obtain ⟨v, q, w⟩ := r.get h2
  exact ⟨v, Option.bind_eq_some_iff.mpr ⟨j, h1, q⟩, w⟩
theorem strOk_sign {z : Str} {i : Int} {c : Nat} (h : PyData.strOk z = true) (e : L2.atI z.cps.toList i = some c) : PyData.strOk ⟨#[c]⟩ = true := by
  unfold L2.atI at e
  obtain ⟨j, _, h2⟩ := Option.bind_eq_some_iff.mp e
  have hc : c ∈ z.cps := by
    have := List.mem_of_getElem? h2
    exact Array.mem_toList_iff.mp this
  unfold PyData.strOk at *
  rw [Array.all_eq_true'] at *
  intro x hx
  have : x = c := by simpa using hx
  subst this
  exact h x hc
theorem ix_ok {ρ : List Addr} {μ : Mem} {σ : L2.St} {H : Hp} {u w : U} {x y : V} {Q : VK} (hm : RepM X.K H ρ μ) (ru : RepV X.K H ρ u x) (rw' : RepV X.K H ρ w y) (hd : dctU μ u = none) (h : Post X W σ relV ρ H (ixU u w μ) Q) : IxW X x y H Q := by
  unfold ixU at h
  rw [hd] at h
  simp only at h
  split at h
  · rename_i z i
    cases ru with
    | str hz =>
      cases rw'
      split at h
      · cases e : L2.atI z.cps.toList i with
        | none => rw [e] at h; exact h.elim
        | some c =>
          rw [e] at h
          exact ⟨_, ix_str, z, i, c, rfl, rfl, lim_le (by assumption), e, h.ok (Stp.refl hm) (.str (strOk_sign hz e))⟩
      · exact h.elim
  · rename_i i _
    cases rw'
    cases e : seqU μ u with
    | none => rw [e] at h; exact h.elim
    | some us =>
      rw [e] at h
      obtain ⟨a, vs, rfl, q, r⟩ := seqU_ok hm ru e
      simp only at h
      cases e2 : L2.atI us i with
      | none => rw [e2] at h; exact h.elim
      | some z =>
        rw [e2] at h
        obtain ⟨v, q2, r2⟩ := r.atI e2
        have qq := h.ok (Stp.refl hm) r2
        rcases q with q | q
        · exact ⟨_, ix_list, a, vs, i, v, rfl, rfl, q, q2, qq⟩
        · exact ⟨_, ix_tup, a, vs, i, v, rfl, rfl, q, q2, qq⟩
  · exact h.elim
theorem dget_ok {ρ : List Addr} {μ : Mem} {σ : L2.St} {H : Hp} {u w : U} {x y : V} {Q : VK} {kus : List (Key × U)} (hm : RepM X.K H ρ μ) (ru : RepV X.K H ρ u x) (rw' : RepV X.K H ρ w y) (hd : dctU μ u = some kus) (h : Post X W σ relV ρ H (ixU u w μ) Q) :
    ∃ a v, x = .ref a ∧ DGet H a y (some v) ∧ Q v H := by
  unfold ixU at h
  rw [hd] at h
  simp only at h
  cases ek : keyU w with
  | none => rw [ek] at h; exact h.elim
  | some k =>
    rw [ek] at h
    simp only at h
    cases ev : valU kus k with
    | none => rw [ev] at h; exact h.elim
    | some z =>
      rw [ev] at h
      cases ru with
      | ref hr =>
        rename_i i a
        have e1 : μ[i]? = some (.dct kus) := by
          unfold dctU at hd
          simp only at hd
          split at hd
          all_goals first
            | (cases hd; assumption)
            | (cases hd; done)
        obtain ⟨kvs, q1, r1⟩ := dct_of hm hr e1
        obtain ⟨v, q2, r2⟩ := r1.val.1 z ev
        refine ⟨a, v, rfl, ?_, h.ok (Stp.refl hm) r2⟩
        rw [keyU_ok rw' ek, ← q2]
        exact DGet.k q1
      | _ => simp [dctU] at hd
theorem ce_sub {a b : Expr} {ma mb : FE} {pos : Pos} (G : Good X W (k + 40)) (ha : CE X W a ma) (hb : CE X W b mb) (hp : PlainIx b := by exact fun _ _ => rfl) (hn : NoSl b := by exact fun _ _ => rfl) : CE X W (.Subscript a b pos) (fOp ixU ma mb) := by
  intro ρ μ s σ H Q hs hm h
  by_cases hd : ∃ u μ1 w μ2 kus, ma s μ = .ok u μ1 ∧ mb s μ1 = .ok w μ2 ∧ dctU μ2 u = some kus
  · obtain ⟨u0, μ10, w0, μ20, kus, e1, e2, e3⟩ := hd
    refine ⟨_, pe_dget G.hu pe_w pe_w hn, ?_⟩
    unfold fOp at h
    rw [e1] at h
    refine ha ρ μ s σ H _ hs hm ?_
    rw [e1]
    intro x H1 ρ1 t1 r1
    have h1 : Post X W σ relV ρ H ((mb s μ10).bind fun w μ2 => ixU u0 w μ2) Q := h
    refine hb ρ1 μ10 s σ H1 _ (t1.s hs) t1.mem ?_
    rw [e2] at h1 ⊢
    intro y H2 ρ2 t2 r2
    have h2 : Post X W σ relV ρ H (ixU u0 w0 μ20) Q := h1
    refine dget_ok (W := W) (σ := σ) t2.mem (t2.v r1) r2 e3 ?_
    generalize ixU u0 w0 μ20 = z at h2
    cases z with
    | ok c m2 => exact fun v2 H3 ρ3 t3 q3 => h2 v2 H3 ρ3 ((t1.trans t2).trans t3) q3
    | ex c m2 => exact fun cls H3 ρ3 t3 e => h2 cls H3 ρ3 ((t1.trans t2).trans t3) e
    | bad => exact h2
  · refine ⟨_, pe_ix ix_w pe_w pe_w hp, ?_⟩
    have hd' : ∀ u μ1 w μ2, ma s μ = .ok u μ1 → mb s μ1 = .ok w μ2 → dctU μ2 u = none := fun u μ1 w μ2 e1 e2 => by
      cases e : dctU μ2 u with
      | none => rfl
      | some kus => exact absurd ⟨u, μ1, w, μ2, kus, e1, e2, e⟩ hd
    unfold fOp at h
    refine ha ρ μ s σ H _ hs hm ?_
    cases e1 : ma s μ with
    | ex c m => rw [e1] at h; exact h
    | bad => rw [e1] at h; exact h
    | ok u0 μ10 =>
      rw [e1] at h
      intro x H1 ρ1 t1 r1
      have h1 : Post X W σ relV ρ H ((mb s μ10).bind fun w μ2 => ixU u0 w μ2) Q := h
      refine hb ρ1 μ10 s σ H1 _ (t1.s hs) t1.mem ?_
      cases e2 : mb s μ10 with
      | ex c m => rw [e2] at h1; exact fun cls H3 ρ3 t3 e => h1 cls H3 ρ3 (t1.trans t3) e
      | bad => rw [e2] at h1; exact h1
      | ok w0 μ20 =>
        rw [e2] at h1
        intro y H2 ρ2 t2 r2
        have h2 : Post X W σ relV ρ H (ixU u0 w0 μ20) Q := h1
        refine ix_ok (W := W) (σ := σ) t2.mem (t2.v r1) r2 (hd' u0 μ10 w0 μ20 e1 e2) ?_
        generalize ixU u0 w0 μ20 = z at h2
        cases z with
        | ok c m2 => exact fun v2 H3 ρ3 t3 q3 => h2 v2 H3 ρ3 ((t1.trans t2).trans t3) q3
        | ex c m2 => exact fun cls H3 ρ3 t3 e => h2 cls H3 ρ3 ((t1.trans t2).trans t3) e
        | bad => exact h2
/-! ### slices -/
abbrev FO := Slots → Mem → Res (Option Int)
def WO (X : Cx) (e : Option Expr) : TO := fun σ H Q => ∃ t, PO X e t ∧ t σ H Q
theorem po_w {e : Option Expr} : PO X e (WO X e) := ⟨fun pins s σ H Q I ⟨_, h, q⟩ => h.run pins s σ H Q I q⟩
def CO (X : Cx) (W : WX) (e : Option Expr) (m : FO) : Prop := ∀ ρ μ s σ H Q, RepS X.K H ρ s σ → RepM X.K H ρ μ → Post X W σ relO ρ H (m s μ) Q → WO X e σ H Q
def oNone : FO := fun _ μ => .ok none μ
def oSome (a : FE) : FO := fun s μ => (a s μ).bind fun u μ1 => match u with
  | .int i => .ok (some i) μ1
  | _ => .bad
theorem co_none : CO X W none oNone := fun ρ μ s σ H Q hs hm h => ⟨_, po_none, h.ok (Stp.refl hm) rfl⟩
theorem co_some {e : Expr} {me : FE} (he : CE X W e me) : CO X W (some e) (oSome me) := by
  intro ρ μ s σ H Q hs hm h
  refine ⟨_, po_some pe_w, ?_⟩
  refine he ρ μ s σ H _ hs hm (h.bind fun u μ1 x H1 ρ1 t1 r1 h1 => ?_)
  split at h1
  · cases r1
    exact ⟨_, rfl, h1.ok (Stp.refl t1.mem) rfl⟩
  · exact h1.elim
def SlW (X : Cx) : V → Option Int → Option Int → Hp → VK → Prop := fun x lo hi H Q => ∃ r, SlR X r ∧ r x lo hi H Q
theorem sl_w : SlR X (SlW X) := fun pins s σ H x v vl vu lo hi sl Q I rx hs pl pu ⟨_, h, q⟩ => h pins s σ H x v vl vu lo hi sl Q I rx hs pl pu q
def cutU {α : Type} (xs : List α) (lo hi : Option Int) : List α := (xs.drop (HT.sIx xs.length 0 lo)).take (HT.sIx xs.length xs.length hi - HT.sIx xs.length 0 lo)
theorem RepVs.cut {K : PySem.W.Frag} {H : Hp} {ρ : List Addr} {us : List U} {vs : List V} (r : RepVs K H ρ us vs) (lo hi : Option Int) : RepVs K H ρ (cutU us lo hi) (cutV vs lo hi) := by
  unfold cutU cutV
  rw [r.length]
  exact (r.drop _).take _
def slU (u : U) (lo hi : Option Int) (μ : Mem) : Res U := match u with
  | .str z => if z.length ≤ lim then .ok (.str (cutS z lo hi)) μ else .bad
  | .tup us => .ok (.tup (cutU us lo hi)) μ
  | u => match lstU μ u with
    | some us => .ok (.ref μ.length) (μ ++ [.lst (cutU us lo hi)])
    | none => .bad
def fSl (a : FE) (lo hi : FO) : FE := fun s μ => (a s μ).bind fun u μ1 => (lo s μ1).bind fun l μ2 => (hi s μ2).bind fun h μ3 => slU u l h μ3
theorem strOk_cut {z : Str} (h : PyData.strOk z = true) (lo hi : Option Int) : PyData.strOk (cutS z lo hi) = true := by
  unfold PyData.strOk at *
  rw [Array.all_eq_true'] at *
  intro x hx
  apply h x
  have h1 : x ∈ (z.cps.toList.drop (HT.sIx z.length 0 lo)).take (HT.sIx z.length z.length hi - HT.sIx z.length 0 lo) := by simpa [cutS] using hx
  exact Array.mem_toList_iff.mp (List.mem_of_mem_drop (List.mem_of_mem_take h1))
theorem cut_whole {α : Type} {xs : List α} {lo hi : Option Int} (h : HT.sIx xs.length 0 lo = 0 ∧ HT.sIx xs.length xs.length hi = xs.length) : cutU xs lo hi = xs := by
  unfold cutU
  rw [h.1, h.2, List.drop_zero, Nat.sub_zero, List.take_length]
theorem ce_slice {e : Expr} {lo hi : Option Expr} {me : FE} {ml mh : FO} {p2 pos : Pos} (he : CE X W e me) (hl : CO X W lo ml) (hh : CO X W hi mh) : CE X W (.Subscript e (.Slice lo hi none p2) pos) (fSl me ml mh) := by
  intro ρ μ s σ H Q hs hm h
  refine ⟨_, pe_slice sl_w pe_w po_w po_w, ?_⟩
  refine he ρ μ s σ H _ hs hm (h.bind fun u μ1 x H1 ρ1 t1 r1 h1 => ?_)
  refine hl ρ1 μ1 s σ H1 _ (t1.s hs) t1.mem (h1.bind fun a μ2 a' H2 ρ2 t2 r2 h2 => ?_)
  refine hh ρ2 μ2 s σ H2 _ (t2.s (t1.s hs)) t2.mem (h2.bind fun b μ3 b' H3 ρ3 t3 r3 h3 => ?_)
  cases r2
  cases r3
  have r4 := t3.v (t2.v r1)
  unfold slU at h3
  split at h3
  · cases r4 with
    | str hz =>
      split at h3
      · exact ⟨_, sl_str, _, rfl, lim_le (by assumption), h3.ok (Stp.refl t3.mem) (.str (strOk_cut hz _ _))⟩
      · exact h3.elim
  · cases r4 with
    | tup hs4 hr4 =>
      refine ⟨_, sl_tupA, _, _, rfl, hs4, fun c => ?_, fun c p np => h3.ok (Stp.temp t3.mem np) (newT np (hr4.cut _ _))⟩
      rw [← hr4.length] at c
      rw [cut_whole c] at h3
      exact h3.ok (Stp.refl t3.mem) (.tup hs4 hr4)
  · split at h3
    · rename_i us e1
      obtain ⟨p, vs, rfl, q1, r5⟩ := lstU_ok t3.mem r4 e1
      exact ⟨_, sl_list, _, _, rfl, q1, fun p np => h3.ok (newL t3.mem np (r5.cut _ _)) (refN t3.mem)⟩
    · exact h3.elim
/-! ### in -/
def inU (u w : U) (μ : Mem) : Option Bool := match w with
  | .str z => match u with
    | .str x => some (!(Builtin.Str.occurrences z x 0 z.length 1).isEmpty)
    | _ => none
  | w => match dctU μ w with
    | some kus => match keyU u with
      | some k => some (valU kus k).isSome
      | none => none
    | none => match seqU μ w with
      | some us => match datU μ u, toDs (refD μ 6) us with
        | some d, some ds => if d.depth ≤ 700 then some (ds.any fun y => PyData.eqv y d) else none
        | _, _ => none
      | none => none
def uIn (u w : U) (μ : Mem) : Res U := resB (inU u w μ) μ
def uNin (u w : U) (μ : Mem) : Res U := resB ((inU u w μ).map not) μ
def rInL (K : PySem.W.Frag) (neg : Bool) : R2 := fun x y H Q => ∃ d p xs ds, Dp K H x d ∧ y = .ref p ∧ (SqL K H p xs ∨ SqT K H p xs) ∧ DpAll K H xs ds ∧ d.canLay0 = true ∧ PyData.canLayAll0 ds = true ∧ d.depth ≤ 700 ∧ Q (.bl (if neg then !ds.any fun z => PyData.eqv z d else ds.any fun z => PyData.eqv z d)) H
theorem op_inL (hu : X.A.units + 800 < cLine) : OpR X (compareOp .In) (rInL X.K false) := by
  intro pins s σ H x y v u Q I rx ry h
  obtain ⟨d, p, xs, ds, hd, rfl, hq, he, sd, se, hl, q⟩ := h
  obtain ⟨as, r1⟩ := Dp.reads I d x v hd rx
  have hroom : X.A.units + 1 + min (PyData.depthAll ds) d.depth < cLine := by
    have h2 : min (PyData.depthAll ds) d.depth ≤ d.depth := Nat.min_le_right _ _
    omega
  rcases hq with hq | hq
  · obtain ⟨bs, r2⟩ := Dp.reads I (.list ds) (.ref p) u (.lst hq he) ry
    exact SeqAt.in_list_reads r2 r1 se sd hroom ⟨.bl _, H, I, rfl, q⟩
  · obtain ⟨bs, r2⟩ := Dp.reads I (.tuple ds) (.ref p) u (.tup hq he) ry
    exact SeqAt.in_tuple_reads r2 r1 se sd hroom ⟨.bl _, H, I, rfl, q⟩
theorem op_ninL (hu : X.A.units + 800 < cLine) : OpR X (compareOp .NotIn) (rInL X.K true) := by
  intro pins s σ H x y v u Q I rx ry h
  obtain ⟨d, p, xs, ds, hd, rfl, hq, he, sd, se, hl, q⟩ := h
  obtain ⟨as, r1⟩ := Dp.reads I d x v hd rx
  have hroom : X.A.units + 1 + min (PyData.depthAll ds) d.depth < cLine := by
    have h2 : min (PyData.depthAll ds) d.depth ≤ d.depth := Nat.min_le_right _ _
    omega
  rcases hq with hq | hq
  · obtain ⟨bs, r2⟩ := Dp.reads I (.list ds) (.ref p) u (.lst hq he) ry
    exact SeqAt.notIn_list_reads r2 r1 se sd hroom ⟨.bl _, H, I, rfl, q⟩
  · obtain ⟨bs, r2⟩ := Dp.reads I (.tuple ds) (.ref p) u (.tup hq he) ry
    exact SeqAt.notIn_tuple_reads r2 r1 se sd hroom ⟨.bl _, H, I, rfl, q⟩
/-- in a dict, by values -/
theorem op_inDc (hu : X.A.units + 1 < cLine) : OpR X (compareOp .In) (fun x y H Q => ∃ a o, y = .ref a ∧ DGet H a x o ∧ Q (.bl o.isSome) H) := by
  intro pins s σ H x y v u Q I rx ry h
  obtain ⟨a, o, rfl, g, q⟩ := h
  cases ry
  exact d_in hu I g rx fun s3 I3 => ⟨.bl o.isSome, H, I3, rfl, q⟩
theorem op_ninDc (hu : X.A.units + 1 < cLine) : OpR X (compareOp .NotIn) (fun x y H Q => ∃ a o, y = .ref a ∧ DGet H a x o ∧ Q (.bl (!o.isSome)) H) := by
  intro pins s σ H x y v u Q I rx ry h
  obtain ⟨a, o, rfl, g, q⟩ := h
  cases ry
  exact d_notIn hu I g rx fun s3 I3 => ⟨.bl (!o.isSome), H, I3, rfl, q⟩
theorem dct_at {K : PySem.W.Frag} {ρ : List Addr} {μ : Mem} {H : Hp} {u : U} {x : V} {kus : List (Key × U)} (hm : RepM K H ρ μ) (ru : RepV K H ρ u x) (hd : dctU μ u = some kus) : ∃ a kvs, x = .ref a ∧ H a = some (.dK kvs) ∧ RepKV K H ρ kus kvs := by
  cases ru with
  | ref hr =>
    rename_i i a
    have e1 : μ[i]? = some (.dct kus) := by
      unfold dctU at hd
      simp only at hd
      split at hd
      all_goals first
        | (cases hd; assumption)
        | (cases hd; done)
    obtain ⟨kvs, q1, r1⟩ := dct_of hm hr e1
    exact ⟨a, kvs, rfl, q1, r1⟩
  | _ => simp [dctU] at hd
def InV (K : PySem.W.Frag) (H : Hp) (x y : V) (b : Bool) : Prop :=
  (∃ d p xs ds, Dp K H x d ∧ y = .ref p ∧ (SqL K H p xs ∨ SqT K H p xs) ∧ DpAll K H xs ds ∧ d.canLay0 = true ∧ PyData.canLayAll0 ds = true ∧ d.depth ≤ 700 ∧ b = ds.any fun z => PyData.eqv z d) ∨
  (∃ a o, y = .ref a ∧ DGet H a x o ∧ b = o.isSome) ∨ ∃ i j, x = .str i ∧ y = .str j ∧ b = !(Builtin.Str.occurrences j i 0 j.length 1).isEmpty
theorem in_ok {K : PySem.W.Frag} {H : Hp} {ρ : List Addr} {μ : Mem} {u w : U} {x y : V} {b : Bool} (hm : RepM K H ρ μ) (ru : RepV K H ρ u x) (rw' : RepV K H ρ w y) (e : inU u w μ = some b) : InV K H x y b := by
  have main : ∀ w' : U, w' = w → (match dctU μ w' with
    | some kus => match keyU u with
      | some k => some (valU kus k).isSome
      | none => none
    | none => match seqU μ w' with
      | some us => match datU μ u, toDs (refD μ 6) us with
        | some d, some ds => if d.depth ≤ 700 then some (ds.any fun y => PyData.eqv y d) else none
        | _, _ => none
      | none => none) = some b → InV K H x y b := by
    intro w' ew h
    subst ew
    cases hd : dctU μ w' with
    | some kus =>
      rw [hd] at h
      simp only at h
      obtain ⟨a, kvs, rfl, q1, r1⟩ := dct_at hm rw' hd
      cases ek : keyU u with
      | none => rw [ek] at h; cases h
      | some k =>
        rw [ek] at h
        cases h
        refine .inr (.inl ⟨a, valV kvs k, rfl, ?_, ?_⟩)
        · rw [keyU_ok ru ek]; exact DGet.k q1
        · cases ev : valU kus k with
          | none => rw [r1.val.2 ev]; rfl
          | some z => obtain ⟨v, q2, _⟩ := r1.val.1 z ev; rw [q2]; rfl
    | none =>
      rw [hd] at h
      simp only at h
      cases es : seqU μ w' with
      | none => rw [es] at h; cases h
      | some us =>
        rw [es] at h
        simp only at h
        obtain ⟨a, vs, rfl, q, r⟩ := seqU_ok hm rw' es
        cases e1 : datU μ u with
        | none => rw [e1] at h; cases h
        | some d =>
          cases e2 : toDs (refD μ 6) us with
          | none => rw [e1, e2] at h; cases h
          | some ds =>
            rw [e1, e2] at h
            simp only at h
            obtain ⟨a1, a2⟩ := datU_ok hm ru e1
            obtain ⟨b1, b2⟩ := toDs_ok (refD_ok hm 6) us vs ds r e2
            split at h
            · cases h
              exact .inl ⟨d, a, vs, ds, a1, rfl, q, b1, a2, b2, by assumption, rfl⟩
            · cases h
  cases w with
  | str z =>
    cases rw'
    cases u with
    | str s =>
      cases ru
      simp only [inU, Option.some.injEq] at e
      exact .inr (.inr ⟨s, z, rfl, rfl, e.symm⟩)
    | _ => simp [inU] at e
  | non => exact main _ rfl e
  | bl b => exact main _ rfl e
  | int b => exact main _ rfl e
  | tup b => exact main _ rfl e
  | ref b => exact main _ rfl e
  | frl b => exact main _ rfl e
theorem os_in (G : Good X W (k + 40)) : OpS X W (compareOp .In) uIn := by
  intro ρ μ σ H u w x y Q hm ru rw' h
  unfold uIn at h
  cases e : inU u w μ with
  | none => rw [e] at h; exact h.elim
  | some b =>
    rw [e] at h
    have q := h.ok (Stp.refl hm) (RepV.bl (b := b))
    rcases in_ok hm ru rw' e with ⟨d, p, xs, ds, a1, a2, a3, a4, a5, a6, a7, rfl⟩ | ⟨a, o, a1, a2, rfl⟩ | ⟨i, j, a1, a2, rfl⟩
    · exact ⟨_, op_inL G.un, d, p, xs, ds, a1, a2, a3, a4, a5, a6, a7, q⟩
    · exact ⟨_, op_inDc G.hu, a, o, a1, a2, q⟩
    · exact ⟨_, op_in_str, i, j, a1, a2, q⟩
theorem os_nin (G : Good X W (k + 40)) : OpS X W (compareOp .NotIn) uNin := by
  intro ρ μ σ H u w x y Q hm ru rw' h
  unfold uNin at h
  cases e : inU u w μ with
  | none => rw [e] at h; exact h.elim
  | some b =>
    rw [e] at h
    have q := h.ok (Stp.refl hm) (RepV.bl (b := !b))
    rcases in_ok hm ru rw' e with ⟨d, p, xs, ds, a1, a2, a3, a4, a5, a6, a7, rfl⟩ | ⟨a, o, a1, a2, rfl⟩ | ⟨i, j, a1, a2, rfl⟩
    · exact ⟨_, op_ninL G.un, d, p, xs, ds, a1, a2, a3, a4, a5, a6, a7, q⟩
    · exact ⟨_, op_ninDc G.hu, a, o, a1, a2, q⟩
    · exact ⟨_, op_notin_str, i, j, a1, a2, q⟩
/-! ### isinstance of a built-in class -/
def tyU (μ : Mem) : U → Option String
  | .non => some "NoneType"
  | .bl _ => some "bool"
  | .int _ => some "int"
  | .str _ => some "str"
  | .tup _ => some "tuple"
  | .ref i => match μ[i]? with
    | some (.lst _) => some "list"
    | some (.dct _) => some "dict"
    | some (.fdc _) => none
    | some (.dtt _) => none
    | some (.fdt _) => none
    | some (.dnt _) => none
    | some (.obj _ _) => none
    | none => none
  | .frl _ => some "list"
theorem tyU_ok {K : PySem.W.Frag} {H : Hp} {ρ : List Addr} {μ : Mem} (hm : RepM K H ρ μ) {u : U} {v : V} {t : String} (r : RepV K H ρ u v) (e : tyU μ u = some t) : TyX K H v (.type t) := by
  cases r with
  | non => cases e; exact .base .non
  | bl => cases e; exact .base (.bl _)
  | int => cases e; exact .base (.int _)
  | str _ => cases e; exact .base (.str _)
  | tup hs _ =>
    cases e
    rcases hs with (h | ⟨o, h⟩) | ⟨o, its, n, h, c, _⟩
    · exact .base (.tup h)
    · exact .fTuple h
    · exact .kTuple h c
  | ref hr =>
    obtain ⟨c, hc, rc⟩ := hm.at hr
    simp only [tyU, hc] at e
    cases c with
    | lst us => obtain ⟨vs, q, _⟩ := rc; cases e; exact .base (.lst q)
    | dct us => obtain ⟨vs, q, _⟩ := rc; cases e; exact .base (.dK q)
    | _ => cases e
  | frl hs _ =>
    cases e
    rcases hs with ⟨o, h⟩ | ⟨o, its, n, h, c, _⟩
    · exact .base (.frz h)
    · exact .kList h c
def isTy (T : String) (t : String) : Bool := t == T || (T == "int" && t == "bool")
def fIsi (T : String) (a : FE) : FE := fun s μ => (a s μ).bind fun u μ1 => match tyU μ1 u with
  | some t => .ok (.bl (isTy T t)) μ1
  | none => .bad
theorem kitK {K : PySem.W.Frag} {T : String} (hT : ∀ t ∈ ["NoneType", "bool", "int", "str", "tuple", "list", "dict"], kitB t T = some (isTy T t)) {μ : Mem} {u : U} {t : String} (e : tyU μ u = some t) : PySem.W.kitOne K (.type t) (.type T) = some (isTy T t) := by
  apply kit_ty
  apply hT
  cases u with
  | ref i =>
    simp only [tyU] at e
    split at e <;> first | (cases e; simp) | cases e
  | _ => cases e; simp
theorem ce_isi {T : String} {x : Str} {a : Expr} {ma : FE} {p p2 pos : Pos} (hT : ∀ t ∈ ["NoneType", "bool", "int", "str", "tuple", "list", "dict"], kitB t T = some (isTy T t)) (ha : CE X W a ma)
    (hT2 : PE X (.Name x p2) (tC (.ty T)))
    (hp : ∀ {r : List V → Hp → VK → Prop} {t : TA}, CallR X (.builtin "isinstance") r → PA X [a, .Name x p2] t → PE X (.Call (.Name "isinstance" p) [a, .Name x p2] [] pos) (tCB r t))
    (hs1 : starEach [a, .Name x p2] X.env = (false, eval a X.env) :: starEach [.Name x p2] X.env := by rfl) (hs2 : starEach [.Name x p2] X.env = (false, eval (.Name x p2) X.env) :: starEach [] X.env := by rfl) :
    CE X W (.Call (.Name "isinstance" p) [a, .Name x p2] [] pos) (fIsi T ma) := by
  intro ρ μ s σ H Q hs hm h
  refine ⟨_, hp call_isi (pa_cons pe_w (pa_cons hT2 pa_nil hs2) hs1), ?_⟩
  refine ha ρ μ s σ H _ hs hm (h.bind fun u μ1 v H1 ρ1 t1 r1 h1 => ?_)
  cases e : tyU μ1 u with
  | none => rw [e] at h1; exact h1.elim
  | some t =>
    rw [e] at h1
    exact ⟨v, .ty T, .type t, .type T, isTy T t, rfl, .ty T, tyU_ok t1.mem r1 e, kitK hT e, h1.ok (Stp.refl t1.mem) .bl⟩
/-! ### methods of lists -/
def MtW (X : Cx) (id : String) : V → List V → Hp → VK → Prop := fun x vs H Q => ∃ r, MtR X id r ∧ r x vs H Q
theorem mt_w {id : String} : MtR X id (MtW X id) := fun pins s σ H x xs v us Q I rx rxs ⟨_, h, q⟩ => h pins s σ H x xs v us Q I rx rxs q
/-- the receiver is known to be a list ahead of the arguments -/
def fMtL (g : U → List U → Mem → Res U) (o : FE) (a : FA) : FE := fun s μ => (o s μ).bind fun u μ1 => match lstU μ1 u with
  | some _ => (a s μ1).bind fun us μ2 => g u us μ2
  | none => .bad
def MtS (X : Cx) (W : WX) (id : String) (g : U → List U → Mem → Res U) : Prop := ∀ ρ μ σ H u us x vs Q, RepM X.K H ρ μ → RepV X.K H ρ u x → RepVs X.K H ρ us vs → Post X W σ relV ρ H (g u us μ) Q → MtW X id x vs H Q
theorem ce_mtL {id : String} {name : Str} {o e : Expr} {es : List Expr} {mo : FE} {ma : FA} {g : U → List U → Mem → Res U} {apos cpos : Pos} (hg : MtS X W id g) (ho : CE X W o mo) (ha : CA X W (e :: es) ma)
    (hp : ∀ {r : V → List V → Hp → VK → Prop} {to : TE} {t : TA}, MtR X id r → PE X o to → PA X (e :: es) t → PE X (.Call (.Attribute o name apos) (e :: es) [] cpos) (tBM X.K "list" r to t)) : CE X W (.Call (.Attribute o name apos) (e :: es) [] cpos) (fMtL g mo ma) := by
  intro ρ μ s σ H Q hs hm h
  refine ⟨_, hp mt_w pe_w pa_w, ?_⟩
  refine ho ρ μ s σ H _ hs hm (h.bind fun u μ1 x H1 ρ1 t1 r1 h1 => ?_)
  split at h1
  · rename_i us e
    obtain ⟨a, vs, rfl, q, _⟩ := lstU_ok t1.mem r1 e
    refine ⟨.inl ⟨rfl, vs, q⟩, ?_⟩
    exact ha ρ1 μ1 s σ H1 _ (t1.s hs) t1.mem (h1.bind fun us μ2 vs H2 ρ2 t2 r2 h2 => hg ρ2 μ2 σ H2 u us _ vs Q t2.mem (t2.v r1) r2 h2)
  · exact h1.elim
theorem ce_mtL0 {id : String} {name : Str} {o : Expr} {mo : FE} {g : U → List U → Mem → Res U} {apos cpos : Pos} (hg : MtS X W id g) (ho : CE X W o mo)
    (hp : ∀ {r : V → List V → Hp → VK → Prop} {to : TE}, MtR X id r → PE X o to → PE X (.Call (.Attribute o name apos) [] [] cpos) (tBM0 X.K "list" r to)) : CE X W (.Call (.Attribute o name apos) [] [] cpos) (fMtL g mo aNil) := by
  intro ρ μ s σ H Q hs hm h
  refine ⟨_, hp mt_w pe_w, ?_⟩
  refine ho ρ μ s σ H _ hs hm (h.bind fun u μ1 x H1 ρ1 t1 r1 h1 => ?_)
  split at h1
  · rename_i us e
    obtain ⟨a, vs, rfl, q, _⟩ := lstU_ok t1.mem r1 e
    exact ⟨.inl ⟨rfl, vs, q⟩, hg ρ1 μ1 σ H1 u [] _ [] Q t1.mem r1 .nil h1⟩
  · exact h1.elim
def gAppend (u : U) (us : List U) (μ : Mem) : Res U := match u, us with
  | .ref i, [w] => match μ[i]? with
    | some (.lst xs) => if xs.length < lim then .ok .non (μ.set i (.lst (xs ++ [w]))) else .bad
    | _ => .bad
  | _, _ => .bad
theorem gs_append : MtS X W "list.append" gAppend := by
  intro ρ μ σ H u us x vs Q hm ru rus h
  unfold gAppend at h
  split at h
  · split at h
    · rename_i e
      split at h
      · cases ru with
        | ref hr =>
          cases rus with
          | cons r1 r2 =>
            cases r2
            obtain ⟨ws, q, rr⟩ := lst_of hm hr e
            exact ⟨_, mt_append, _, ws, _, rfl, rfl, q, by rw [← rr.length]; exact lim_lt (by assumption), h.ok (putL hm hr e (rr.append (.one r1))) .non⟩
      · exact h.elim
    · exact h.elim
  · exact h.elim
theorem RepVs.dropLast {K : PySem.W.Frag} {H : Hp} {ρ : List Addr} {us : List U} {vs : List V} (r : RepVs K H ρ us vs) : RepVs K H ρ us.dropLast vs.dropLast := by
  rw [List.dropLast_eq_take, List.dropLast_eq_take, r.length]
  exact r.take _
def gPop (u : U) (us : List U) (μ : Mem) : Res U := match u, us with
  | .ref i, [] => match μ[i]? with
    | some (.lst xs) => match xs[xs.length - 1]? with
      | some w => .ok w (μ.set i (.lst xs.dropLast))
      | none => .bad
    | _ => .bad
  | _, _ => .bad
theorem gs_pop : MtS X W "list.pop" gPop := by
  intro ρ μ σ H u us x vs Q hm ru rus h
  unfold gPop at h
  split at h
  · split at h
    · rename_i xs e
      split at h
      · rename_i w e2
        cases ru with
        | ref hr =>
          cases rus
          obtain ⟨ws, q, rr⟩ := lst_of hm hr e
          obtain ⟨z, q2, r2⟩ := rr.get e2
          have t := putL hm hr e rr.dropLast
          exact ⟨_, mt_pop, _, ws, z, rfl, rfl, q, by rw [← rr.length]; exact q2, h.ok t (t.v r2)⟩
      · exact h.elim
    · exact h.elim
  · exact h.elim
end
end Dg
/-! Dg5: statements, loops, comprehensions, calls of defs, a def by its body. -/
namespace Dg
open PySem PySem.Spec PyProof.Rows L2 RZ
/-! ### what is wanted behind a statement -/
def PostS (X : Cx) (W : WX) (ρ : List Addr) (H : Hp) (o : Out) (D : Ends) : Prop := match o with
  | .nx s' μ' => ∀ σ' H' ρ', Stp X.K ρ H ρ' H' μ' → RepS X.K H' ρ' s' σ' → D.nx σ' H'
  | .rt u μ' => ∀ v H' ρ', Stp X.K ρ H ρ' H' μ' → RepV X.K H' ρ' u v → D.rt v H'
  | .bk s' μ' => ∀ σ' H' ρ', Stp X.K ρ H ρ' H' μ' → RepS X.K H' ρ' s' σ' → D.bk σ' H'
  | .ct s' μ' => ∀ σ' H' ρ', Stp X.K ρ H ρ' H' μ' → RepS X.K H' ρ' s' σ' → D.ct σ' H'
  | .ex c s' μ' => ∀ cls σ' H' ρ', Stp X.K ρ H ρ' H' μ' → RepS X.K H' ρ' s' σ' → X.mg c = some cls → W cls none σ' H'
  | .bad => False
def ofR {α : Type} (r : Res α) (s : Slots) (k : α → Mem → Out) : Out := match r with
  | .ok a μ => k a μ
  | .ex c μ => .ex c s μ
  | .bad => .bad
theorem PostS.from {X : Cx} {W : WX} {ρ ρ1 : List Addr} {H H1 : Hp} {μ1 : Mem} {o : Out} {D : Ends} (t : Stp X.K ρ H ρ1 H1 μ1) (h : PostS X W ρ H o D) : PostS X W ρ1 H1 o D := by
  cases o with
  | nx s m => exact fun σ' H' ρ' t' r => h σ' H' ρ' (t.trans t') r
  | rt u m => exact fun σ' H' ρ' t' r => h σ' H' ρ' (t.trans t') r
  | bk s m => exact fun σ' H' ρ' t' r => h σ' H' ρ' (t.trans t') r
  | ct s m => exact fun σ' H' ρ' t' r => h σ' H' ρ' (t.trans t') r
  | ex c s m => exact fun cls σ' H' ρ' t' r e => h cls σ' H' ρ' (t.trans t') r e
  | bad => exact h
theorem PostS.bind {α β : Type} {X : Cx} {W : WX} {σ : L2.St} {rel : RelT α β} {ρ : List Addr} {H : Hp} {r : Res α} {s : Slots} {k : α → Mem → Out} {D : Ends} {Q1 : β → Hp → Prop} (hs : RepS X.K H ρ s σ)
    (h : PostS X W ρ H (ofR r s k) D) (hk : ∀ a μ1 x H1 ρ1, Stp X.K ρ H ρ1 H1 μ1 → rel X.K H1 ρ1 a x → PostS X W ρ1 H1 (k a μ1) D → Q1 x H1) : Post X W σ rel ρ H r Q1 := by
  cases r with
  | ok a m =>
    intro v H' ρ' t q
    exact hk a m v H' ρ' t q (PostS.from t h)
  | ex c m => exact fun cls H' ρ' t e => h cls σ H' ρ' t (t.s hs) e
  | bad => exact h
/-- the same out, other ends behind -/
theorem PostS.ends {X : Cx} {W : WX} {ρ : List Addr} {H : Hp} {o : Out} {D D' : Ends} (h : PostS X W ρ H o D) (n : ∀ s m, o = .nx s m → PostS X W ρ H o D') (r : D'.rt = D.rt) (b : ∀ s m, o = .bk s m → PostS X W ρ H o D') (c : ∀ s m, o = .ct s m → PostS X W ρ H o D') : PostS X W ρ H o D' := by
  cases o with
  | nx s m => exact n s m rfl
  | rt u m => exact fun v H' ρ' t' q => by rw [r]; exact h v H' ρ' t' q
  | bk s m => exact b s m rfl
  | ct s m => exact c s m rfl
  | ex c s m => exact h
  | bad => exact h
def WS (X : Cx) (st : Stmt) : TS := fun D σ H => ∃ t, PS X st t ∧ t D σ H
theorem ps_w {X : Cx} {st : Stmt} : PS X st (WS X st) := ⟨fun pins s σ H D I ⟨_, h, q⟩ => h.run pins s σ H D I q⟩
def WSs (X : Cx) (st : List Stmt) : TS := fun D σ H => ∃ t, PSs X st t ∧ t D σ H
theorem pss_w {X : Cx} {st : List Stmt} : PSs X st (WSs X st) := ⟨fun pins s σ H D I ⟨_, h, q⟩ => h.run pins s σ H D I q⟩
def CS (X : Cx) (W : WX) (st : Stmt) (m : FS) : Prop := ∀ ρ μ s σ H D, RepS X.K H ρ s σ → RepM X.K H ρ μ → PostS X W ρ H (m s μ) D → WS X st D σ H
def CSs (X : Cx) (W : WX) (st : List Stmt) (m : FS) : Prop := ∀ ρ μ s σ H D, RepS X.K H ρ s σ → RepM X.K H ρ μ → PostS X W ρ H (m s μ) D → WSs X st D σ H
section
variable {X : Cx} {W : WX} {k : Nat}
def sNext : FS := fun s μ => .nx s μ
def sSeq (a b : FS) : FS := fun s μ => match a s μ with
  | .nx s1 μ1 => b s1 μ1
  | o => o
theorem css_nil : CSs X W [] sNext := fun ρ μ s σ H D hs hm h => ⟨_, pss_nil, h σ H ρ (Stp.refl hm) hs⟩
theorem css_cons {st : Stmt} {rest : List Stmt} {a b : FS} (ha : CS X W st a) (hb : CSs X W rest b) : CSs X W (st :: rest) (sSeq a b) := by
  intro ρ μ s σ H D hs hm h
  refine ⟨_, pss_cons ps_w pss_w, ?_⟩
  refine ha ρ μ s σ H _ hs hm ?_
  unfold sSeq at h
  cases e : a s μ with
  | nx s1 μ1 =>
    rw [e] at h
    intro σ' H' ρ' t r
    exact hb ρ' μ1 s1 σ' H' D r t.mem (PostS.from t h)
  | rt u m => rw [e] at h; exact h
  | bk u m => rw [e] at h; exact h
  | ct u m => rw [e] at h; exact h
  | ex c u m => rw [e] at h; exact h
  | bad => rw [e] at h; exact h
theorem css_one {st : Stmt} {a : FS} (ha : CS X W st a) : CSs X W [st] a := fun ρ μ s σ H D hs hm h => ⟨_, pss_one ps_w, ha ρ μ s σ H D hs hm h⟩
def sBrk : FS := fun s μ => .bk s μ
def sCnt : FS := fun s μ => .ct s μ
def sExpr (a : FE) : FS := fun s μ => ofR (a s μ) s fun _ μ1 => .nx s μ1
theorem cs_expr {e : Expr} {me : FE} {pos : Pos} (he : CE X W e me) (hs0 : swapsWith e none pos.line X.env = pure false := by rfl) : CS X W (.Expr e pos) (sExpr me) := by
  intro ρ μ s σ H D hs hm h
  refine ⟨_, ps_expr pe_w hs0, ?_⟩
  exact he ρ μ s σ H _ hs hm (PostS.bind hs h fun u μ1 x H1 ρ1 t1 r1 h1 => h1 σ H1 ρ1 (Stp.refl t1.mem) (t1.s hs))
def sRet (a : FE) : FS := fun s μ => ofR (a s μ) s fun u μ1 => .rt u μ1
theorem cs_ret {e : Expr} {me : FE} {pos : Pos} (he : CE X W e me) : CS X W (.Return (some e) pos) (sRet me) := by
  intro ρ μ s σ H D hs hm h
  refine ⟨_, ps_ret pe_w, ?_⟩
  exact he ρ μ s σ H _ hs hm (PostS.bind hs h fun u μ1 x H1 ρ1 t1 r1 h1 => h1 x H1 ρ1 (Stp.refl t1.mem) r1)
def sRetN : FS := fun _ μ => .rt .non μ
def sIf (t : FT) (a b : FS) : FS := fun s μ => ofR (t s μ) s fun c μ1 => match c with
  | true => a s μ1
  | false => b s μ1
theorem cs_if {c : Expr} {p q : List Stmt} {tc : FT} {a b : FS} {pos : Pos} (hc : CT X W c tc) (ha : CSs X W p a) (hb : CSs X W q b) : CS X W (.If c p q pos) (sIf tc a b) := by
  intro ρ μ s σ H D hs hm h
  refine ⟨_, ps_if pt_w pss_w pss_w, ?_⟩
  refine hc ρ μ s σ H _ hs hm (PostS.bind hs h fun b μ1 x H1 ρ1 t1 r1 h1 => ?_)
  cases r1
  cases b with
  | true => exact iteT (ha ρ1 μ1 s σ H1 D (t1.s hs) t1.mem h1)
  | false => exact iteF (hb ρ1 μ1 s σ H1 D (t1.s hs) t1.mem h1)
/-! ### targets -/
inductive Tgt where
  | one (i : Nat)
  | tup (is : List Nat)
def setAll : List Nat → List U → Slots → Slots
  | i :: is, u :: us, s => setAll is us (s.set i (some u))
  | _, _, s => s
def setT (g : Tgt) (u : U) (s : Slots) : Option Slots := match g, u with
  | .one i, u => some (s.set i (some u))
  | .tup is, .tup us => if us.length = is.length then some (setAll is us s) else none
  | _, _ => none
def WG (X : Cx) (tg : Expr) : TG := fun v σ H Q => ∃ t, PG X tg t ∧ t v σ H Q
theorem pg_w {tg : Expr} : PG X tg (WG X tg) := ⟨fun pins s σ H v u Q I r ⟨_, h, q⟩ => h.run pins s σ H v u Q I r q⟩
def inT (g : Tgt) (vs : List Nat) : Prop := match g with
  | .one i => i ∈ vs
  | .tup is => ∀ i ∈ is, i ∈ vs
/-- what is stored lies as the mirror's slots; only the slots of the target change -/
def CG (X : Cx) (tg : Expr) (g : Tgt) : Prop := ∀ ρ s σ H u v s' (Q : L2.St → Hp → Prop), RepS X.K H ρ s σ → RepV X.K H ρ u v → setT g u s = some s' →
  (∀ σ', RepS X.K H ρ s' σ' → (∀ vs : List Nat, inT g vs → wipe σ' vs = wipe σ vs) → Q σ' H) → WG X tg v σ H Q
theorem wipe_set {σ : L2.St} {i : Nat} {x : Option V} : ∀ {vs : List Nat}, i ∈ vs → wipe (σ.set i x) vs = wipe σ vs
  | v :: vs, h => by
    show (wipe (σ.set i x) vs).set v none = (wipe σ vs).set v none
    by_cases e : v = i
    · subst e
      by_cases hv : v ∈ vs
      · rw [wipe_set hv]
      · have key : ∀ (ws : List Nat), v ∉ ws → wipe (σ.set v x) ws = (wipe σ ws).set v x := by
          intro ws
          induction ws with
          | nil => intro _; rfl
          | cons w ws ih =>
            intro hw
            simp only [List.mem_cons, not_or] at hw
            show (wipe (σ.set v x) ws).set w none = ((wipe σ ws).set w none).set v x
            rw [ih hw.2]
            exact List.set_comm _ _ hw.1
        rw [key vs hv, List.set_set]
    · have hv : i ∈ vs := by
        rcases List.mem_cons.mp h with q | q
        · exact absurd q.symm e
        · exact q
      rw [wipe_set hv]
theorem wipe_wipe {σ : L2.St} : ∀ {vs ws : List Nat}, (∀ i ∈ ws, i ∈ vs) → wipe (wipe σ ws) vs = wipe σ vs
  | vs, [], _ => rfl
  | vs, w :: ws, h => by
    show wipe ((wipe σ ws).set w none) vs = wipe σ vs
    rw [wipe_set (h w (by simp)), wipe_wipe (ws := ws) fun i hi => h i (by simp [hi])]
theorem cg_one {i : Nat} {x : Str} {pos : Pos} (hN : X.N.Nodup) (hi : X.N[i]? = some x) (hx : Loc X.env.scope x) (hf : X.fn x = true ∨ X.env.scope.names.lookup x = some .local := by first | exact .inl rfl | exact .inr rfl | assumption) : CG X (.Name x pos) (.one i) := by
  intro ρ s σ H u v s' Q hs r e h
  refine ⟨_, pg_name hN hi hx hf, ?_⟩
  cases e
  exact h _ (hs.set r) fun vs hv => wipe_set hv
/-- several names -/
def WGs (X : Cx) (ts : List Expr) : TGs := fun vs σ H Q => ∃ t, PGs X ts t ∧ t vs σ H Q
theorem pgs_w {ts : List Expr} : PGs X ts (WGs X ts) := ⟨fun pins s σ H vs us Q I r ⟨_, h, q⟩ => h.run pins s σ H vs us Q I r q⟩
def CGs (X : Cx) (ts : List Expr) (is : List Nat) : Prop := ∀ ρ s σ H us vs (Q : L2.St → Hp → Prop), RepS X.K H ρ s σ → RepVs X.K H ρ us vs → us.length = is.length →
  (∀ σ', RepS X.K H ρ (setAll is us s) σ' → (∀ ws : List Nat, (∀ i ∈ is, i ∈ ws) → wipe σ' ws = wipe σ ws) → Q σ' H) → WGs X ts vs σ H Q
theorem cgs_nil : CGs X [] [] := by
  intro ρ s σ H us vs Q hs r hl h
  refine ⟨_, pgs_nil, ?_⟩
  cases r with
  | nil => exact ⟨rfl, h σ hs fun _ _ => rfl⟩
  | cons _ _ => simp at hl
theorem cgs_cons {e : Expr} {es : List Expr} {i : Nat} {is : List Nat} (h1 : CG X e (.one i)) (h2 : CGs X es is) (hs0 : (assignEach (e :: es) X.env).map (·.2) = assign e X.env :: (assignEach es X.env).map (·.2) := by rfl) : CGs X (e :: es) (i :: is) := by
  intro ρ s σ H us vs Q hs r hl h
  refine ⟨_, pgs_cons pg_w pgs_w hs0, ?_⟩
  cases r with
  | nil => simp at hl
  | cons r1 r2 =>
    refine ⟨_, _, rfl, ?_⟩
    refine h1 ρ s σ H _ _ _ _ hs r1 rfl fun σ' hs' hw => ?_
    refine h2 ρ _ σ' H _ _ Q hs' r2 (by simpa using hl) fun σ2 hs2 hw2 => ?_
    exact h σ2 hs2 fun ws hws => (hw2 ws fun j hj => hws j (by simp [hj])).trans (hw ws (hws i (by simp)))
theorem cg_tup {es : List Expr} {is : List Nat} {j : Nat} {pos : Pos} (hc : X.calm = true) (h : CGs X es is) (hn : (assignEach es X.env).length = is.length := by rfl) (hst : (assignEach es X.env).findIdx? (·.1) = none := by rfl) : CG X (.Tuple es j pos) (.tup is) := by
  intro ρ s σ H u v s' Q hs r e q
  refine ⟨_, pg_tup hc pgs_w hn hst, ?_⟩
  cases r with
  | tup hs1 hr1 =>
    simp only [setT] at e
    split at e
    · rename_i hl
      cases e
      exact ⟨_, _, rfl, hs1, by rw [← hr1.length]; exact hl, h ρ s σ H _ _ Q hs hr1 hl fun σ' hs' hw => q σ' hs' hw⟩
    · cases e
  | _ => simp [setT] at e
/-- x = e; a, b = e -/
def sAsg (g : Tgt) (a : FE) : FS := fun s μ => ofR (a s μ) s fun u μ1 => match setT g u s with
  | some s1 => .nx s1 μ1
  | none => .bad
theorem cs_asg {tg e : Expr} {g : Tgt} {me : FE} {pos : Pos} (he : CE X W e me) (hg : CG X tg g) (hp : ∀ {te : TE} {gt : TG}, PE X e te → PG X tg gt → PS X (.Assign [tg] e pos) (tAsg te gt)) : CS X W (.Assign [tg] e pos) (sAsg g me) := by
  intro ρ μ s σ H D hs hm h
  refine ⟨_, hp pe_w pg_w, ?_⟩
  refine he ρ μ s σ H _ hs hm (PostS.bind hs h fun u μ1 x H1 ρ1 t1 r1 h1 => ?_)
  cases es : setT g u s with
  | none => rw [es] at h1; exact h1.elim
  | some s1 =>
    rw [es] at h1
    exact hg ρ1 s σ H1 u x s1 _ (t1.s hs) r1 es fun σ' hs' _ => h1 σ' H1 ρ1 (Stp.refl t1.mem) hs'
theorem cs_set {i : Nat} {x : Str} {e : Expr} {me : FE} {pos pos' : Pos} (hN : X.N.Nodup) (hi : X.N[i]? = some x) (hx : Loc X.env.scope x) (he : CE X W e me) (hs0 : swapsWith e (some (.Name x pos')) pos.line X.env = pure false := by rfl)
    (hf : X.fn x = true ∨ X.env.scope.names.lookup x = some .local := by first | exact .inl rfl | exact .inr rfl | assumption) : CS X W (.Assign [.Name x pos'] e pos) (sAsg (.one i) me) := by
  intro ρ μ s σ H D hs hm h
  refine ⟨_, ps_set hN hi hx pe_w hs0 hf, ?_⟩
  exact he ρ μ s σ H _ hs hm (PostS.bind hs h fun u μ1 x H1 ρ1 t1 r1 h1 => h1 _ H1 ρ1 (Stp.refl t1.mem) ((t1.s hs).set r1))
/-! ### o[i] = e, d[k] = e -/
def stU (o i u : U) (μ : Mem) : Option Mem := match o with
  | .ref r => match μ[r]? with
    | some (.lst xs) => match i with
      | .int n => match ixN xs.length n with
        | some j => some (μ.set r (.lst (xs.set j u)))
        | none => none
      | _ => none
    | some (.dct kus) => match keyU i with
      | some k => if kus.length < lim then some (μ.set r (.dct (putU kus k u))) else none
      | none => none
    | _ => none
  | _ => none
def sStore (o i a : FE) : FS := fun s μ => ofR (a s μ) s fun u μ1 => ofR (o s μ1) s fun x μ2 => ofR (i s μ2) s fun y μ3 => match stU x y u μ3 with
  | some μ4 => .nx s μ4
  | none => .bad
theorem cs_store {o i e : Expr} {mo mi me : FE} {pos pos' : Pos} (G : Good X W (k + 40)) (ho : CE X W o mo) (hi : CE X W i mi) (he : CE X W e me)
    (h1 : ∀ {to ti te : TE}, PE X o to → PE X i ti → PE X e te → PS X (.Assign [.Subscript o i pos'] e pos) (tAsg te (gSub to ti rSetL)))
    (h2 : ∀ {to ti te : TE}, PE X o to → PE X i ti → PE X e te → PS X (.Assign [.Subscript o i pos'] e pos) (sDPut to ti te)) : CS X W (.Assign [.Subscript o i pos'] e pos) (sStore mo mi me) := by
  intro ρ μ s σ H D hs hm h
  by_cases hd : ∃ u μ1 x μ2 y μ3 kus, me s μ = .ok u μ1 ∧ mo s μ1 = .ok x μ2 ∧ mi s μ2 = .ok y μ3 ∧ dctU μ3 x = some kus
  · obtain ⟨u, μ1, x, μ2, y, μ3, kus, e1, e2, e3, e4⟩ := hd
    refine ⟨_, h2 pe_w pe_w pe_w, ?_⟩
    unfold sStore at h
    rw [e1] at h
    refine he ρ μ s σ H _ hs hm ?_
    rw [e1]
    intro uv H1 ρ1 t1 r1
    refine ho ρ1 μ1 s σ H1 _ (t1.s hs) t1.mem ?_
    have g1 : PostS X W ρ H (ofR (mo s μ1) s fun x μ2 => ofR (mi s μ2) s fun y μ3 => match stU x y u μ3 with
      | some μ4 => .nx s μ4
      | none => .bad) D := h
    rw [e2] at g1 ⊢
    intro xv H2 ρ2 t2 r2
    refine hi ρ2 μ2 s σ H2 _ (t2.s (t1.s hs)) t2.mem ?_
    have g2 : PostS X W ρ H (ofR (mi s μ2) s fun y μ3 => match stU x y u μ3 with
      | some μ4 => .nx s μ4
      | none => .bad) D := g1
    rw [e3] at g2 ⊢
    intro yv H3 ρ3 t3 r3
    have g3 : PostS X W ρ H (match stU x y u μ3 with
      | some μ4 => .nx s μ4
      | none => .bad) D := g2
    have g4 := PostS.from ((t1.trans t2).trans t3) g3
    cases es : stU x y u μ3 with
    | none => rw [es] at g4; exact g4.elim
    | some μ4 =>
      rw [es] at g4
      have r2' := t3.v r2
      obtain ⟨a, kvs, rfl, q1, rk⟩ := dct_at t3.mem r2' e4
      cases r2' with
      | ref hr =>
        rename_i r
        have em : μ3[r]? = some (.dct kus) := by
          unfold dctU at e4
          simp only at e4
          split at e4
          all_goals first
            | (cases e4; assumption)
            | (cases e4; done)
        simp only [stU, em] at es
        cases ek : keyU y with
        | none => rw [ek] at es; cases es
        | some k =>
          rw [ek] at es
          simp only at es
          split at es
          · rename_i hz
            cases es
            have ru := (t3.v (t2.v r1))
            refine ⟨a, _, rfl, ?_, g4 σ _ ρ3 (putD t3.mem hr em (rk.put ru)) ?_⟩
            · rw [keyU_ok r3 ek]
              exact DPut.k q1 (by rw [rk.length]; exact lim_lt hz)
            · exact (putD t3.mem hr em (rk.put ru)).s (t3.s (t2.s (t1.s hs)))
          · cases es
      | tup _ _ => simp [dctU] at e4
      | frl _ _ => simp [dctU] at e4
  · refine ⟨_, h1 pe_w pe_w pe_w, ?_⟩
    unfold sStore at h
    refine he ρ μ s σ H _ hs hm ?_
    cases e1 : me s μ with
    | ex c m => rw [e1] at h; exact fun cls H' ρ' t e => h cls σ H' ρ' t (t.s hs) e
    | bad => rw [e1] at h; exact h
    | ok u μ1 =>
      rw [e1] at h
      intro uv H1 ρ1 t1 r1
      refine ho ρ1 μ1 s σ H1 _ (t1.s hs) t1.mem ?_
      have g1 : PostS X W ρ1 H1 (ofR (mo s μ1) s fun x μ2 => ofR (mi s μ2) s fun y μ3 => match stU x y u μ3 with
        | some μ4 => .nx s μ4
        | none => .bad) D := PostS.from t1 h
      cases e2 : mo s μ1 with
      | ex c m => rw [e2] at g1; exact fun cls H' ρ' t e => g1 cls σ H' ρ' t (t.s (t1.s hs)) e
      | bad => rw [e2] at g1; exact g1
      | ok x μ2 =>
        rw [e2] at g1
        intro xv H2 ρ2 t2 r2
        refine hi ρ2 μ2 s σ H2 _ (t2.s (t1.s hs)) t2.mem ?_
        have g2 : PostS X W ρ2 H2 (ofR (mi s μ2) s fun y μ3 => match stU x y u μ3 with
          | some μ4 => .nx s μ4
          | none => .bad) D := PostS.from t2 g1
        cases e3 : mi s μ2 with
        | ex c m => rw [e3] at g2; exact fun cls H' ρ' t e => g2 cls σ H' ρ' t (t.s (t2.s (t1.s hs))) e
        | bad => rw [e3] at g2; exact g2
        | ok y μ3 =>
          rw [e3] at g2
          intro yv H3 ρ3 t3 r3
          have g4 : PostS X W ρ3 H3 (match stU x y u μ3 with
            | some μ4 => .nx s μ4
            | none => .bad) D := PostS.from t3 g2
          cases es : stU x y u μ3 with
          | none => rw [es] at g4; exact g4.elim
          | some μ4 =>
            rw [es] at g4
            have r2' := t3.v r2
            unfold stU at es
            split at es
            · rename_i r
              split at es
              · rename_i xs em
                split at es
                · rename_i n
                  split at es
                  · rename_i j ej
                    cases es
                    cases r2' with
                    | ref hr =>
                      cases r3
                      obtain ⟨ws, q, rr⟩ := lst_of t3.mem hr em
                      have t4 := putL t3.mem hr em (rr.set (t3.v (t2.v r1)) j)
                      exact ⟨_, ws, n, j, rfl, rfl, q, by rw [← rr.length]; exact ej, g4 σ _ ρ3 t4 (t4.s (t3.s (t2.s (t1.s hs))))⟩
                  · cases es
                · cases es
              · rename_i kus em
                exact absurd ⟨u, μ1, .ref r, μ2, y, μ3, kus, e1, e2, e3, by simp only [dctU, em]⟩ hd
              · cases es
            · cases es
/-! ### x += e -/
def sAug (i : Nat) (f : Int → Int → Int) (a : FE) : FS := fun s μ => match s[i]? with
  | some (some (.int x)) => ofR (a s μ) s fun u μ1 => match u with
    | .int y => .nx (s.set i (some (.int (f x y)))) μ1
    | _ => .bad
  | _ => .bad
theorem cs_aug {i : Nat} {x : Str} {e : Expr} {me : FE} {op : Operator} {f : Int → Int → Int} {pos pos' : Pos} (hN : X.N.Nodup) (hi : X.N[i]? = some x) (hx : Loc X.env.scope x) (he : CE X W e me) (ho : PIp X op (ipI f))
    (hf : X.fn x = true ∨ X.env.scope.names.lookup x = some .local := by first | exact .inl rfl | exact .inr rfl | assumption)
    (hp : ∀ {te : TE}, PE X e te → PS X (.AugAssign (.Name x pos') op e pos) (L2.tAug i te (ipI f))) : CS X W (.AugAssign (.Name x pos') op e pos) (sAug i f me) := by
  intro ρ μ s σ H D hs hm h
  refine ⟨_, hp pe_w, ?_⟩
  unfold sAug at h
  split at h
  · rename_i z e1
    obtain ⟨v, q, r⟩ := hs.get i _ e1
    cases r
    refine ⟨_, q, ?_⟩
    refine he ρ μ s σ H _ hs hm (PostS.bind hs h fun u μ1 x H1 ρ1 t1 r1 h1 => ?_)
    split at h1
    · cases r1
      exact ⟨_, _, rfl, rfl, h1 _ H1 ρ1 (Stp.refl t1.mem) ((t1.s hs).set .int)⟩
    · exact h1.elim
  · exact h.elim
/-! ### while -/
def sWhile (t : FT) (b : FS) : Nat → FS
  | 0 => fun _ _ => .bad
  | n + 1 => fun s μ => ofR (t s μ) s fun c μ1 => match c with
    | false => .nx s μ1
    | true => match b s μ1 with
      | .nx s2 μ2 => sWhile t b n s2 μ2
      | .ct s2 μ2 => sWhile t b n s2 μ2
      | .bk s2 μ2 => .nx s2 μ2
      | o => o
theorem cs_while {c : Expr} {body : List Stmt} {tc : FT} {b : FS} {pos : Pos} (n : Nat) (G : Good X W k) (hc : CT X W c tc) (hb : CSs X W body b) : CS X W (.While c body [] pos) (sWhile tc b n) := by
  intro ρ μ s σ H D hs hm h
  refine ⟨_, ps_while G.po pt_w pss_w, ?_⟩
  refine ⟨fun m σ' H' => ∃ ρ' s' μ', RepM X.K H' ρ' μ' ∧ RepS X.K H' ρ' s' σ' ∧ PostS X W ρ' H' (sWhile tc b m s' μ') D, ⟨n, ρ, s, μ, hm, hs, h⟩, ?_⟩
  intro m σ' H' ⟨ρ', s', μ', hm', hs', h'⟩
  cases m with
  | zero => exact h'.elim
  | succ m =>
    refine hc ρ' μ' s' σ' H' _ hs' hm' (PostS.bind hs' h' fun b0 μ1 x H1 ρ1 t1 r1 h1 => ?_)
    cases r1
    cases b0 with
    | false => exact iteF (h1 σ' H1 ρ1 (Stp.refl t1.mem) (t1.s hs'))
    | true =>
      refine iteT ⟨fun σ2 H2 => ∃ ρ2 s2 μ2, RepM X.K H2 ρ2 μ2 ∧ RepS X.K H2 ρ2 s2 σ2 ∧ PostS X W ρ2 H2 (sWhile tc b m s2 μ2) D, fun σ2 H2 q => ⟨m, Nat.lt_succ_self m, q⟩, ?_⟩
      refine hb ρ1 μ1 s' σ' H1 _ (t1.s hs') t1.mem ?_
      cases e : b s' μ1 with
      | nx s2 μ2 =>
        simp only [e] at h1
        exact fun σ2 H2 ρ2 t r => ⟨ρ2, s2, μ2, t.mem, r, PostS.from t h1⟩
      | ct s2 μ2 =>
        simp only [e] at h1
        exact fun σ2 H2 ρ2 t r => ⟨ρ2, s2, μ2, t.mem, r, PostS.from t h1⟩
      | bk s2 μ2 => simp only [e] at h1; exact h1
      | rt u m2 => simp only [e] at h1; exact h1
      | ex c2 u m2 => simp only [e] at h1; exact h1
      | bad => simp only [e] at h1; exact h1.elim
/-! ### what is walked -/
inductive IterU where
  | seq (us : List U)
  | rng (lo c : Int) (n : Nat)
  | live (r : Nat)
  | zipL (a b : Nat)
  /-- the list at r from its item n - 1 down -/
  | rev (r n : Nat)
  /-- a tuple beside the list at r -/
  | zipM (us : List U) (r : Nat)
  /-- the list at r beside a tuple -/
  | zipQ (r : Nat) (us : List U)
  /-- the list at r with the places -/
  | enum (r : Nat)
def listAt (μ : Mem) (r : Nat) : Option (List U) := match μ[r]? with
  | some (.lst us) => some us
  | _ => none
def itemAt (it : IterU) (i : Nat) (μ : Mem) : Option (Option U) := match it with
  | .seq us => some us[i]?
  | .rng lo c n => some (if i < n then some (.int (lo + (i : Int) * c)) else none)
  | .live r => (listAt μ r).map fun us => us[i]?
  | .zipL a b => match listAt μ a, listAt μ b with
    | some us, some ws => some (match us[i]?, ws[i]? with
      | some u, some w => some (.tup [u, w])
      | _, _ => none)
    | _, _ => none
  | .rev r n => (listAt μ r).bind fun us => if i < n then us[n - 1 - i]?.map some else some none
  | .zipM us r => match listAt μ r with
    | some ws => some (match us[i]?, ws[i]? with
      | some u, some w => some (.tup [u, w])
      | _, _ => none)
    | none => none
  | .zipQ r us => match listAt μ r with
    | some ws => some (match ws[i]?, us[i]? with
      | some w, some u => some (.tup [w, u])
      | _, _ => none)
    | none => none
  | .enum r => (listAt μ r).map fun us => us[i]?.map fun u => .tup [.int (i : Nat), u]
def ItOk (K : PySem.W.Frag) (ρ : List Addr) (H : Hp) (it : IterU) (J : It) : Prop := ∀ i ρ' H' μ', Ext ρ ρ' → TX H H' → RepM K H' ρ' μ' → match itemAt it i μ' with
  | none => True
  | some none => J.stop i H'
  | some (some u) => J.go i H' ∧ ∀ x H'', J.yld i H' x H'' → Stp K ρ' H' ρ' H'' μ' ∧ RepV K H'' ρ' u x
def relI : RelT IterU It := fun K H ρ it J => ItOk K ρ H it J
abbrev FI := Slots → Mem → Res IterU
def WI (X : Cx) (tg iter : Expr) : TI := fun σ H R => ∃ wi, PI X tg iter wi ∧ wi σ H R
theorem pi_w {tg iter : Expr} : PI X tg iter (WI X tg iter) := ⟨fun pins s σ H R I ⟨_, h, q⟩ => h.run pins s σ H R I q⟩
def CI (X : Cx) (W : WX) (tg iter : Expr) (m : FI) : Prop := ∀ ρ μ s σ H R, RepS X.K H ρ s σ → RepM X.K H ρ μ → Post X W σ relI ρ H (m s μ) R → WI X tg iter σ H R
theorem listAt_ok {K : PySem.W.Frag} {H : Hp} {ρ : List Addr} {μ : Mem} (hm : RepM K H ρ μ) {r : Nat} {a : Addr} {us : List U} (hr : ρ[r]? = some a) (e : listAt μ r = some us) : ∃ vs, SqL K H a vs ∧ RepVs K H ρ us vs := by
  obtain ⟨c, hc, rc⟩ := hm.at hr
  simp only [listAt, hc] at e
  cases c with
  | lst us => obtain ⟨vs, q, r⟩ := rc; cases e; exact ⟨vs, .inl (.inl q), r⟩
  | _ => cases e
theorem it_live {K : PySem.W.Frag} {H : Hp} {ρ : List Addr} {r : Nat} {a : Addr} (hr : ρ[r]? = some a) : ItOk K ρ H (.live r) (Itl K a) := by
  intro i ρ' H' μ' ex tx hm
  simp only [itemAt]
  cases e : listAt μ' r with
  | none => trivial
  | some us =>
    obtain ⟨vs, q, rr⟩ := listAt_ok hm (ex.get hr) e
    simp only [Option.map_some]
    cases eu : us[i]? with
    | none =>
      refine ⟨vs, q, ?_⟩
      rw [← rr.length]
      exact List.getElem?_eq_none_iff.mp eu
    | some u =>
      obtain ⟨v, q2, r2⟩ := rr.get eu
      refine ⟨⟨vs, v, q, q2⟩, fun x H'' y => ?_⟩
      obtain ⟨rfl, hx⟩ := y
      have := hx vs q
      rw [q2] at this
      cases this
      exact ⟨Stp.refl hm, r2⟩
theorem it_frl {K : PySem.W.Frag} {H : Hp} {ρ : List Addr} {a : Addr} {us : List U} {vs : List V} (hs : FrL K H a vs) (hr : RepVs K H ρ us vs) : ItOk K ρ H (.seq us) (Itl K a) := by
  intro i ρ' H' μ' ex tx hm
  simp only [itemAt]
  have hs' := (tx.frl hs).sq
  have hr' := hr.mono tx ex
  cases eu : us[i]? with
  | none =>
    refine ⟨vs, hs', ?_⟩
    rw [← hr'.length]
    exact List.getElem?_eq_none_iff.mp eu
  | some u =>
    obtain ⟨v, q2, r2⟩ := hr'.get eu
    refine ⟨⟨vs, v, hs', q2⟩, fun x H'' y => ?_⟩
    obtain ⟨rfl, hx⟩ := y
    have := hx vs hs'
    rw [q2] at this
    cases this
    exact ⟨Stp.refl hm, r2⟩
theorem it_tup {K : PySem.W.Frag} {H : Hp} {ρ : List Addr} {a : Addr} {us : List U} {vs : List V} (hs : SqT K H a vs) (hr : RepVs K H ρ us vs) : ItOk K ρ H (.seq us) (Itt K a) := by
  intro i ρ' H' μ' ex tx hm
  simp only [itemAt]
  have hs' := tx.seq hs
  have hr' := hr.mono tx ex
  cases eu : us[i]? with
  | none =>
    refine ⟨vs, hs', ?_⟩
    rw [← hr'.length]
    exact List.getElem?_eq_none_iff.mp eu
  | some u =>
    obtain ⟨v, q2, r2⟩ := hr'.get eu
    refine ⟨⟨vs, v, hs', q2⟩, fun x H'' y => ?_⟩
    obtain ⟨rfl, hx⟩ := y
    have := hx vs hs'
    rw [q2] at this
    cases this
    exact ⟨Stp.refl hm, r2⟩
theorem it_rng {K : PySem.W.Frag} {H : Hp} {ρ : List Addr} {lo : Int} {n : Nat} : ItOk K ρ H (.rng lo 1 n) (Itr lo n) := by
  intro i ρ' H' μ' ex tx hm
  simp only [itemAt]
  by_cases hi : i < n
  · simp only [hi, if_true]
    refine ⟨hi, fun x H'' y => ?_⟩
    obtain ⟨rfl, rfl⟩ := y
    rw [Int.mul_one]
    exact ⟨Stp.refl hm, .int⟩
  · simp only [hi, if_false]
    show n ≤ i
    omega
/-- a list, a tuple, a text: by value -/
def iAny (K : PySem.W.Frag) (tl : TE) : TI := fun σ H R => tl σ H fun x H1 => (∃ a, x = .ref a ∧ (∃ xs, SqL K H1 a xs) ∧ R (Itl K a) H1) ∨ (∃ a, x = .ref a ∧ (∃ xs, SqT K H1 a xs) ∧ R (Itt K a) H1) ∨ ∃ z, x = .str z ∧ R (Its z) H1
theorem pi_any {tg l : Expr} {tl : TE} (hl : PE X l tl) : PI X tg l (iAny X.K tl) := by
  refine ⟨fun pins s σ H R I h => ?_⟩
  refine thn (hl.run pins s σ H _ I h) fun v s1 ⟨x, H1, I1, r1, q1⟩ => ?_
  rcases q1 with ⟨a, e, ⟨xs, hq⟩, q⟩ | ⟨a, e, ⟨xs, hq⟩, q⟩ | ⟨x, e, q⟩
  · subst e
    cases r1
    obtain ⟨its, rv, p, hz⟩ := I1.list hq
    refine wpAny_pyIter_list p.isList ?_
    refine ⟨s1.heap.objs.size, [s1.heap.objs.size], _, _, H1, rfl, I1.kept (t' := s1.toks) fun b o e => Heap.get?_push_of_some _ e, turn_list a _, ⟨_, Heap.get?_push_size _ rfl, rfl, rfl⟩, fun b hb => ?_, q⟩
    have e : b = s1.heap.objs.size := by simpa using hb
    subst e
    exact I1.fpOk (Nat.le_refl _) (I1.hok.fresh (Nat.le_refl _))
  · subst e
    cases r1
    obtain ⟨its, rv, p, hz⟩ := I1.tuple hq
    refine wpAny_pyIter_tuple (show s1.heap.IsTuple a its.toArray from p) ?_
    refine ⟨s1.heap.objs.size, [s1.heap.objs.size], _, _, H1, rfl, I1.kept (t' := s1.toks) fun b o e => Heap.get?_push_of_some _ e, turn_tuple a _, ⟨_, Heap.get?_push_size _ rfl, rfl, rfl⟩, fun b hb => ?_, q⟩
    have e : b = s1.heap.objs.size := by simpa using hb
    subst e
    exact I1.fpOk (Nat.le_refl _) (I1.hok.fresh (Nat.le_refl _))
  · subst e
    obtain ⟨t, rfl⟩ := r1
    cases ha : x.cps.all (· < 128)
    · exact wpAny_pyIter_wide ha (pi_one (tk := s1.toks) I1 _ (turn_str _ x t "str_iterator" (.inr rfl)) ⟨_, Heap.get?_push_size _ rfl, rfl, rfl⟩ q)
    · exact wpAny_pyIter_ascii ha (pi_one (tk := s1.toks) I1 _ (turn_str _ x t "str_ascii_iterator" (.inl rfl)) ⟨_, Heap.get?_push_size _ rfl, rfl, rfl⟩ q)
def signsU (z : Str) : List U := z.cps.toList.map fun c => .str ⟨#[c]⟩
theorem it_str {K : PySem.W.Frag} {H : Hp} {ρ : List Addr} {z : Str} (hz : PyData.strOk z = true) : ItOk K ρ H (.seq (signsU z)) (Its z) := by
  intro i ρ' H' μ' ex tx hm
  simp only [itemAt, signsU, List.getElem?_map]
  cases eu : z.cps.toList[i]? with
  | none =>
    show z.cps.size ≤ i
    have := List.getElem?_eq_none_iff.mp eu
    simpa using this
  | some c =>
    have hi : i < z.cps.size := by
      have := (List.getElem?_eq_some_iff.mp eu).1
      simpa using this
    refine ⟨hi, fun x H'' y => ?_⟩
    obtain ⟨rfl, c', e1, rfl⟩ := y
    have e2 : z.cps[i]? = some c := by
      rw [← Array.getElem?_toList]; exact eu
    rw [e1] at e2
    cases e2
    refine ⟨Stp.refl hm, .str ?_⟩
    have hc : c ∈ z.cps := Array.mem_toList_iff.mp (List.mem_of_getElem? eu)
    unfold PyData.strOk at *
    rw [Array.all_eq_true'] at *
    intro x hx
    have : x = c := by simpa using hx
    subst this
    exact hz x hc
def iSeq (a : FE) : FI := fun s μ => (a s μ).bind fun u μ1 => match u with
  | .tup us => .ok (.seq us) μ1
  | .frl us => .ok (.seq us) μ1
  | .str z => .ok (.seq (signsU z)) μ1
  | .ref r => match listAt μ1 r with
    | some _ => .ok (.live r) μ1
    | none => .bad
  | _ => .bad
theorem ci_seq {tg e : Expr} {me : FE} (he : CE X W e me) : CI X W tg e (iSeq me) := by
  intro ρ μ s σ H R hs hm h
  unfold iSeq at h
  refine ⟨_, pi_any pe_w, ?_⟩
  refine he ρ μ s σ H _ hs hm (h.bind fun u μ1 x H1 ρ1 t1 r1 h1 => ?_)
  cases r1 with
  | tup hs1 hr1 => exact .inr (.inl ⟨_, rfl, ⟨_, hs1⟩, h1.ok (Stp.refl t1.mem) (it_tup hs1 hr1)⟩)
  | str hz => exact .inr (.inr ⟨_, rfl, h1.ok (Stp.refl t1.mem) (it_str hz)⟩)
  | frl hs1 hr1 => exact .inl ⟨_, rfl, ⟨_, hs1.sq⟩, h1.ok (Stp.refl t1.mem) (it_frl hs1 hr1)⟩
  | ref hr =>
    rename_i r a
    simp only at h1
    cases e : listAt μ1 r with
    | none => rw [e] at h1; exact h1.elim
    | some us =>
      rw [e] at h1
      obtain ⟨vs, q, _⟩ := listAt_ok t1.mem hr e
      exact .inl ⟨a, rfl, ⟨vs, q⟩, h1.ok (Stp.refl t1.mem) (it_live hr)⟩
  | _ => exact h1.elim
def okR (i : Int) : Bool := decide (-(2 ^ 62) ≤ i ∧ i < 2 ^ 62)
def iRg1 (a : FE) : FI := fun s μ => (a s μ).bind fun u μ1 => match u with
  | .int n => if okR n then .ok (.rng 0 1 n.toNat) μ1 else .bad
  | _ => .bad
theorem ci_rg1 {tg a : Expr} {ma : FE} {p pos : Pos} (hg : Gl X "range") (hm0 : X.mg "range" = none) (ha : CE X W a ma) (hs1 : starEach [a] X.env = (false, eval a X.env) :: starEach [] X.env := by rfl) (hs2 : starEach [a] X.env = [(false, eval a X.env)] := by rfl) : CI X W tg (.Call (.Name "range" p) [a] [] pos) (iRg1 ma) := by
  intro ρ μ s σ H R hs hm h
  refine ⟨_, pi_range1 hg hm0 (pa_cons pe_w pa_nil hs1) hs2, ?_⟩
  refine ha ρ μ s σ H _ hs hm (h.bind fun u μ1 x H1 ρ1 t1 r1 h1 => ?_)
  split at h1
  · cases r1
    split at h1
    · rename_i hz
      have hz' := of_decide_eq_true hz
      exact ⟨_, rfl, hz'.1, hz'.2, h1.ok (Stp.refl t1.mem) it_rng⟩
    · exact h1.elim
  · exact h1.elim
/-- reversed(range(n)) -/
def iRev1 (a : FE) : FI := fun s μ => (a s μ).bind fun u μ1 => match u with
  | .int n => if okR n then .ok (.rng (n.toNat - 1) (-1) n.toNat) μ1 else .bad
  | _ => .bad
/-! ### for -/
def fuelF : Nat := 1000000
def sForGo (g : Tgt) (b : FS) : Nat → IterU → Nat → FS
  | 0, _, _ => fun _ _ => .bad
  | f + 1, it, i => fun s μ => match itemAt it i μ with
    | none => .bad
    | some none => .nx s μ
    | some (some u) => match setT g u s with
      | none => .bad
      | some s1 => match b s1 μ with
        | .nx s2 μ2 => sForGo g b f it (i + 1) s2 μ2
        | .ct s2 μ2 => sForGo g b f it (i + 1) s2 μ2
        | .bk s2 μ2 => .nx s2 μ2
        | o => o
def sFor (it : FI) (g : Tgt) (b : FS) : FS := fun s μ => ofR (it s μ) s fun j μ1 => sForGo g b fuelF j 0 s μ1
theorem cs_for {tg iter : Expr} {body : List Stmt} {mi : FI} {g : Tgt} {b : FS} {pos : Pos} (G : Good X W k) (hi : CI X W tg iter mi) (hg : CG X tg g) (hb : CSs X W body b)
    (hs0 : ∀ x, foldedSetIterable iter X.env x = pure x := by intro _; rfl) : CS X W (.For tg iter body [] pos) (sFor mi g b) := by
  intro ρ μ s σ H D hs hm h
  refine ⟨_, ps_for G.po G.calm pi_w pg_w pss_w hs0, ?_⟩
  refine hi ρ μ s σ H _ hs hm (PostS.bind hs h fun j μ1 J H1 ρ1 t1 r1 h1 => ?_)
  have hJ : ItOk X.K ρ1 H1 j J := r1
  refine ⟨fun i m σ' H' => ∃ ρ' s' μ', Stp X.K ρ1 H1 ρ' H' μ' ∧ RepS X.K H' ρ' s' σ' ∧ PostS X W ρ' H' (sForGo g b m j i s' μ') D, ⟨fuelF, ρ1, s, μ1, Stp.refl t1.mem, t1.s hs, h1⟩, ?_⟩
  intro i m σ' H' ⟨ρ', s', μ', t', hs', h'⟩
  cases m with
  | zero => exact h'.elim
  | succ m =>
    have q := hJ i ρ' H' μ' t'.ext t'.tx t'.mem
    unfold sForGo at h'
    cases e : itemAt j i μ' with
    | none => rw [e] at h'; exact h'.elim
    | some o =>
      rw [e] at h' q
      cases o with
      | none => exact .inl ⟨q, h' σ' H' ρ' (Stp.refl t'.mem) hs'⟩
      | some u =>
        refine .inr ⟨q.1, fun σ2 H2 => ∃ ρ2 s2 μ2, Stp X.K ρ1 H1 ρ2 H2 μ2 ∧ RepS X.K H2 ρ2 s2 σ2 ∧ PostS X W ρ2 H2 (sForGo g b m j (i + 1) s2 μ2) D, fun σ2 H2 z => ⟨m, Nat.lt_succ_self m, z⟩, fun x H'' y => ?_⟩
        obtain ⟨t2, ru⟩ := q.2 x H'' y
        simp only at h'
        cases es : setT g u s' with
        | none => rw [es] at h'; exact h'.elim
        | some s1 =>
          rw [es] at h'
          simp only at h'
          refine hg ρ' s' σ' H'' u x s1 _ (t2.s hs') ru es fun σ3 hs3 _ => ?_
          refine hb ρ' μ' s1 σ3 H'' _ hs3 t2.mem ?_
          cases eb : b s1 μ' with
          | nx s2 μ2 =>
            rw [eb] at h'
            exact fun σ4 H4 ρ4 t r => ⟨ρ4, s2, μ2, (t'.trans t2).trans t, r, PostS.from (t2.trans t) h'⟩
          | ct s2 μ2 =>
            rw [eb] at h'
            exact fun σ4 H4 ρ4 t r => ⟨ρ4, s2, μ2, (t'.trans t2).trans t, r, PostS.from (t2.trans t) h'⟩
          | bk s2 μ2 => rw [eb] at h'; exact PostS.from t2 h'
          | rt u m2 => rw [eb] at h'; exact PostS.from t2 h'
          | ex c2 u m2 => rw [eb] at h'; exact PostS.from t2 h'
          | bad => rw [eb] at h'; exact h'.elim
/-! ### [e for x in xs if t] -/
def wipeU (s : Slots) : List Nat → Slots
  | [] => s
  | v :: vs => (wipeU s vs).set v none
def lcGo (j : IterU) (own : List Nat) (g : Tgt) (t : FT) (e : FE) (s : Slots) (D : Nat) : Nat → Nat → Mem → Res U
  | 0, _, _ => .bad
  | f + 1, i, μ => match itemAt j i μ with
    | none => .bad
    | some none => .ok (.ref D) μ
    | some (some u) => match setT g u (wipeU s own) with
      | none => .bad
      | some s1 => match t s1 μ with
        | .ok true μ3 => match e s1 μ3 with
          | .ok v μ4 => match μ4[D]? with
            | some (.lst acc) => if acc.length < lim then lcGo j own g t e s D f (i + 1) (μ4.set D (.lst (acc ++ [v]))) else .bad
            | _ => .bad
          | _ => .bad
        | .ok false μ3 => lcGo j own g t e s D f (i + 1) μ3
        | _ => .bad
def fLc (it : FI) (own : List Nat) (g : Tgt) (t : FT) (e : FE) : FE := fun s μ => (it s μ).bind fun j μ1 => lcGo j own g t e s μ1.length fuelF 0 (μ1 ++ [.lst []])
def tAll : FT := fun _ μ => .ok true μ
theorem RepS.wipe {K : PySem.W.Frag} {H : Hp} {ρ : List Addr} {s : Slots} {σ : L2.St} (h : RepS K H ρ s σ) : ∀ vs : List Nat, RepS K H ρ (wipeU s vs) (L2.wipe σ vs)
  | [] => h
  | v :: vs => by
    have ih := RepS.wipe h vs
    refine ⟨by simp [wipeU, L2.wipe, ih.len], fun i u e => ?_⟩
    by_cases hv : v = i
    · subst hv
      have : v < (wipeU s vs).length := by
        have := (List.getElem?_eq_some_iff.mp e).1
        simpa [wipeU] using this
      simp only [wipeU] at e
      rw [List.getElem?_set_self this] at e
      cases e
    · simp only [wipeU] at e
      rw [List.getElem?_set_ne hv] at e
      obtain ⟨x, q, r⟩ := ih.get i u e
      refine ⟨x, ?_, r⟩
      show ((L2.wipe σ vs).set v none)[i]? = _
      rw [List.getElem?_set_ne hv]
      exact q
abbrev W0 : WX := fun _ _ _ _ => False
/-- an element of a comprehension, in all the frames that it may have -/
def WEb (X : Cx) (scope : Scope) (e : Expr) : TE := fun σ H Q => ∀ (s : Shared) (H0 : Hp) (C : Addr) (cl : List (Str × Addr)) (fp : List Addr), WE (X.blk s H0 scope (compEnvC scope cl C X.env) fp) e σ H Q
theorem pe_wb {scope : Scope} {e : Expr} (s : Shared) (H0 : Hp) (C : Addr) (cl : List (Str × Addr)) (fp : List Addr) : PE (X.blk s H0 scope (compEnvC scope cl C X.env) fp) e (WEb X scope e) :=
  ⟨fun pins s1 σ H Q I q => pe_w.run pins s1 σ H Q I (q s H0 C cl fp)⟩
def WGb (X : Cx) (scope : Scope) (e : Expr) : TG := fun v σ H Q => ∀ (s : Shared) (H0 : Hp) (C : Addr) (cl : List (Str × Addr)) (fp : List Addr), WG (X.blk s H0 scope (compEnvC scope cl C X.env) fp) e v σ H Q
theorem pg_wb {scope : Scope} {e : Expr} (s : Shared) (H0 : Hp) (C : Addr) (cl : List (Str × Addr)) (fp : List Addr) : PG (X.blk s H0 scope (compEnvC scope cl C X.env) fp) e (WGb X scope e) :=
  ⟨fun pins s1 σ H v u Q I r q => pg_w.run pins s1 σ H v u Q I r (q s H0 C cl fp)⟩
def WTs (X : Cx) (ifs : List Expr) : TT := fun σ H Q => ∃ t, PTs X ifs t ∧ t σ H Q
theorem pts_w {ifs : List Expr} : PTs X ifs (WTs X ifs) := ⟨fun pins s σ H Q I ⟨_, h, q⟩ => h.run pins s σ H Q I q⟩
def CTs (X : Cx) (W : WX) (ifs : List Expr) (m : FT) : Prop := ∀ ρ μ s σ H Q, RepS X.K H ρ s σ → RepM X.K H ρ μ → Post X W σ relB ρ H (m s μ) Q → WTs X ifs σ H Q
theorem cts_nil : CTs X W [] tAll := fun ρ μ s σ H Q hs hm h => ⟨_, pts_nil, h.ok (Stp.refl hm) rfl⟩
theorem cts_one {c : Expr} {t : FT} (h : CT X W c t) : CTs X W [c] t := fun ρ μ s σ H Q hs hm p => ⟨_, pts_one pt_w, h ρ μ s σ H Q hs hm p⟩
def WTb (X : Cx) (scope : Scope) (ifs : List Expr) : TT := fun σ H Q => ∀ (s : Shared) (H0 : Hp) (C : Addr) (cl : List (Str × Addr)) (fp : List Addr), WTs (X.blk s H0 scope (compEnvC scope cl C X.env) fp) ifs σ H Q
theorem pts_wb {scope : Scope} {ifs : List Expr} (s : Shared) (H0 : Hp) (C : Addr) (cl : List (Str × Addr)) (fp : List Addr) : PTs (X.blk s H0 scope (compEnvC scope cl C X.env) fp) ifs (WTb X scope ifs) :=
  ⟨fun pins s1 σ H Q I q => pts_w.run pins s1 σ H Q I (q s H0 C cl fp)⟩
def subT (g : Tgt) (own : List Nat) : Bool := match g with
  | .one i => decide (i ∈ own)
  | .tup is => is.all fun i => decide (i ∈ own)
theorem subT_ok {g : Tgt} {own : List Nat} (h : subT g own = true) : inT g own := by
  cases g with
  | one i =>
    have h' : decide (i ∈ own) = true := h
    have h2 : i ∈ own := of_decide_eq_true h'
    exact h2
  | tup is =>
    have h' : (is.all fun i => decide (i ∈ own)) = true := h
    have h2 : ∀ i ∈ is, i ∈ own := fun i hi => of_decide_eq_true (List.all_eq_true.mp h' i hi)
    exact h2
/-- what a comprehension's reading asks is shown by the mirror's -/
theorem lc_reads {tg iter : Expr} {ifs : List Expr} {elt : Expr} {scope : Scope} {own : List Nat} {mi : FI} {g : Tgt} {t : FT} {e : FE} (hi : CI X W tg iter mi)
    (hg : ∀ s H0 C cl fp, CG (X.blk s H0 scope (compEnvC scope cl C X.env) fp) tg g) (ht : ∀ s H0 C cl fp, CTs (X.blk s H0 scope (compEnvC scope cl C X.env) fp) W0 ifs t)
    (he : ∀ s H0 C cl fp, CE (X.blk s H0 scope (compEnvC scope cl C X.env) fp) W0 elt e) (hsub : subT g own = true)
    {ρ : List Addr} {μ : Mem} {s : Slots} {σ : L2.St} {H : Hp} {Q : VK} (hs : RepS X.K H ρ s σ) (hm : RepM X.K H ρ μ) (h : Post X W σ relV ρ H (fLc mi own g t e s μ) Q) :
    tLc (WI X tg iter) (WGb X scope tg) (WTb X scope ifs) (WEb X scope elt) own σ H Q := by
  refine hi ρ μ s σ H _ hs hm (h.bind fun j μ1 J H1 ρ1 t1 r1 h1 => ?_)
  intro D hD
  have hJ : ItOk X.K ρ1 H1 j J := r1
  have tD := newL t1.mem hD (RepVs.nil (K := X.K) (H := H1) (ρ := ρ1))
  refine ⟨fun i m H' => ∃ ρ' μ', Stp X.K (ρ1 ++ [D]) (upd H1 D (.lst [])) ρ' H' μ' ∧ Post X W σ relV ρ' H' (lcGo j own g t e s μ1.length m i μ') Q, ⟨fuelF, ρ1 ++ [D], μ1 ++ [.lst []], Stp.refl tD.mem, ?_⟩, ?_⟩
  · revert h1
    generalize lcGo j own g t e s μ1.length fuelF 0 (μ1 ++ [.lst []]) = z
    intro h1
    cases z with
    | ok c m2 => exact fun v2 H3 ρ3 t3 q3 => h1 v2 H3 ρ3 (tD.trans t3) q3
    | ex c m2 => exact fun cls H3 ρ3 t3 e => h1 cls H3 ρ3 (tD.trans t3) e
    | bad => exact h1
  intro i m H' ⟨ρ', μ', t', h'⟩
  have hDr : ρ'[μ1.length]? = some D := t'.ext.get (by rw [← t1.mem.len, List.getElem?_append_right (Nat.le_refl _)]; simp)
  cases m with
  | zero => exact h'.elim
  | succ m =>
    have q := hJ i ρ' H' μ' (tD.ext.trans t'.ext) (tD.tx.trans t'.tx) t'.mem
    unfold lcGo at h'
    cases e0 : itemAt j i μ' with
    | none => rw [e0] at h'; exact h'.elim
    | some o =>
      rw [e0] at h' q
      cases o with
      | none => exact .inl ⟨q, h'.ok (Stp.refl t'.mem) (.ref hDr)⟩
      | some u =>
        refine .inr ⟨q.1, fun H2 => ∃ ρ2 μ2, Stp X.K (ρ1 ++ [D]) (upd H1 D (.lst [])) ρ2 H2 μ2 ∧ Post X W σ relV ρ2 H2 (lcGo j own g t e s μ1.length m (i + 1) μ2) Q, fun H2 z => ⟨m, Nat.lt_succ_self m, z⟩, fun x H'' y => ?_⟩
        obtain ⟨t2, ru⟩ := q.2 x H'' y
        simp only at h'
        have hsw : RepS X.K H'' ρ' (wipeU s own) (wipe σ own) := (t2.s (t'.s (tD.s (t1.s hs)))).wipe own
        cases es : setT g u (wipeU s own) with
        | none => rw [es] at h'; exact h'.elim
        | some s1 =>
          rw [es] at h'
          simp only at h'
          intro s0 H0 C cl fp
          refine hg s0 H0 C cl fp ρ' (wipeU s own) (wipe σ own) H'' u x s1 _ hsw ru es fun σ3 hs3 hw => ⟨?_, ?_⟩
          · have := hw own (subT_ok hsub)
            rw [this]
            exact wipe_wipe fun i hi => hi
          · intro s0' H0' C' cl' fp'
            refine ht s0' H0' C' cl' fp' ρ' μ' s1 σ3 H'' _ hs3 t2.mem ?_
            cases et : t s1 μ' with
            | ex c m2 => rw [et] at h'; exact h'.elim
            | bad => rw [et] at h'; exact h'.elim
            | ok b μ3 =>
              rw [et] at h'
              intro b' H4 ρ4 t4 r4
              cases r4
              cases b with
              | false =>
                refine iteF ⟨ρ4, μ3, (t'.trans t2).trans t4, ?_⟩
                simp only at h'
                revert h'
                generalize lcGo j own g t e s μ1.length m (i + 1) μ3 = z
                intro h'
                cases z with
                | ok c m2 => exact fun v2 H3 ρ3 t3 q3 => h' v2 H3 ρ3 ((t2.trans t4).trans t3) q3
                | ex c m2 => exact fun cls H3 ρ3 t3 e => h' cls H3 ρ3 ((t2.trans t4).trans t3) e
                | bad => exact h'
              | true =>
                refine iteT ?_
                intro s0' H0' C' cl' fp'
                refine he s0' H0' C' cl' fp' ρ4 μ3 s1 σ3 H4 _ (t4.s hs3) t4.mem ?_
                simp only at h'
                cases ee : e s1 μ3 with
                | ex c m2 => rw [ee] at h'; exact h'.elim
                | bad => rw [ee] at h'; exact h'.elim
                | ok v μ4 =>
                  rw [ee] at h'
                  simp only at h'
                  intro w H5 ρ5 t5 r5
                  split at h'
                  · rename_i acc em
                    split at h'
                    · rename_i hz
                      have hD5 : ρ5[μ1.length]? = some D := t5.ext.get (t4.ext.get (t2.ext.get hDr))
                      obtain ⟨ws, q5, rr⟩ := lst_of t5.mem hD5 em
                      have t6 := putL t5.mem hD5 em (rr.append (.one r5))
                      refine ⟨ws, q5, by rw [← rr.length]; exact lim_lt hz, ρ5, _, (((t'.trans t2).trans t4).trans t5).trans t6, ?_⟩
                      revert h'
                      generalize lcGo j own g t e s μ1.length m (i + 1) (μ4.set μ1.length (.lst (acc ++ [v]))) = z
                      intro h'
                      cases z with
                      | ok c m2 => exact fun v2 H3 ρ3 t3 q3 => h' v2 H3 ρ3 ((((t2.trans t4).trans t5).trans t6).trans t3) q3
                      | ex c m2 => exact fun cls H3 ρ3 t3 e => h' cls H3 ρ3 ((((t2.trans t4).trans t5).trans t6).trans t3) e
                      | bad => exact h'
                    · exact h'.elim
                  · exact h'.elim
theorem ce_lc {tg iter : Expr} {ifs : List Expr} {elt : Expr} {scope : Scope} {own : List (Str × Nat)} {pos : Pos} {mi : FI} {g : Tgt} {t : FT} {e : FE} (G : Good X W k) (hN : X.N.Nodup) (ok : BlkOk X.N X.env.scope scope own) (hi : CI X W tg iter mi)
    (hg : ∀ s H0 C cl fp, CG (X.blk s H0 scope (compEnvC scope cl C X.env) fp) tg g) (ht : ∀ s H0 C cl fp, CTs (X.blk s H0 scope (compEnvC scope cl C X.env) fp) W0 ifs t)
    (he : ∀ s H0 C cl fp, CE (X.blk s H0 scope (compEnvC scope cl C X.env) fp) W0 elt e) (hsub : subT g (own.map (·.2)) = true) (hs0 : ∀ x, foldedSetIterable iter X.env x = pure x := by intro _; rfl) :
    CE X W (.ListComp elt [⟨tg, iter, ifs, 0⟩] scope pos) (fLc mi (own.map (·.2)) g t e) :=
  fun ρ μ s σ H Q hs hm h => ⟨_, pe_lc G.calm hN pi_w ok pg_wb pts_wb pe_wb hs0, lc_reads hi hg ht he hsub hs hm h⟩
theorem cs_setLc {i : Nat} {y : Str} {py : Pos} {tg iter : Expr} {ifs : List Expr} {elt : Expr} {scope : Scope} {own : List (Str × Nat)} {pos spos : Pos} {mi : FI} {g : Tgt} {t : FT} {e : FE} (G : Good X W k) (hN : X.N.Nodup) (hy : X.N[i]? = some y) (hyl : X.env.scope.names.lookup y = some .local)
    (hsw : swapsWith (.ListComp elt [⟨tg, iter, ifs, 0⟩] scope pos) (some (.Name y py)) spos.line X.env = pure true) (ok : BlkOk X.N X.env.scope scope own) (hi : CI X W tg iter mi)
    (hg : ∀ s H0 C cl fp, CG (X.blk s H0 scope (compEnvC scope cl C X.env) fp) tg g) (ht : ∀ s H0 C cl fp, CTs (X.blk s H0 scope (compEnvC scope cl C X.env) fp) W0 ifs t)
    (he : ∀ s H0 C cl fp, CE (X.blk s H0 scope (compEnvC scope cl C X.env) fp) W0 elt e) (hsub : subT g (own.map (·.2)) = true)
    (hp : ∀ {wi : TI} {gg : TG} {tt : TT} {te : TE}, PI X tg iter wi → (∀ (s : Shared) (H : Hp) (C : Addr) (cl : List (Str × Addr)) (fp : List Addr), PG (X.blk s H scope (compEnvC scope cl C X.env) fp) tg gg) → (∀ (s : Shared) (H : Hp) (C : Addr) (cl : List (Str × Addr)) (fp : List Addr), PTs (X.blk s H scope (compEnvC scope cl C X.env) fp) ifs tt) →
      (∀ (s : Shared) (H : Hp) (C : Addr) (cl : List (Str × Addr)) (fp : List Addr), PE (X.blk s H scope (compEnvC scope cl C X.env) fp) elt te) → PS X (.Assign [.Name y py] (.ListComp elt [⟨tg, iter, ifs, 0⟩] scope pos) spos) (tAsg (tLc wi gg tt te (own.map (·.2))) (gName i))) :
    CS X W (.Assign [.Name y py] (.ListComp elt [⟨tg, iter, ifs, 0⟩] scope pos) spos) (sAsg (.one i) (fLc mi (own.map (·.2)) g t e)) := by
  intro ρ μ s σ H D hs hm h
  refine ⟨_, hp pi_w pg_wb pts_wb pe_wb, ?_⟩
  refine lc_reads (W := W) hi hg ht he hsub hs hm ?_
  exact PostS.bind hs h fun u μ1 x H1 ρ1 t1 r1 h1 => h1 _ H1 ρ1 (Stp.refl t1.mem) ((t1.s hs).set r1)
/-! ### a def -/
def spF (K : PySem.W.Frag) (mg : Str → Option Value) (n : Nat) (g : List U → Mem → Res U) : Sp := fun vs H Q E => vs.length = n ∧ ∃ ρ μ us, RepVs K H ρ us vs ∧ RepM K H ρ μ ∧ match g us μ with
  | .ok u μ' => ∀ v H' ρ', Stp K ρ H ρ' H' μ' → RepV K H' ρ' u v → Q v H'
  | .ex c μ' => ∀ cls H' ρ', Stp K ρ H ρ' H' μ' → mg c = some cls → E cls none H'
  | .bad => False
def fDef (n : Nat) (g : List U → Mem → Res U) (a : FA) : FE := fun s μ => (a s μ).bind fun us μ1 => if us.length = n then g us μ1 else .bad
theorem ce_def {f : Addr} {fd : FuncData} {ps : List Str} {g : List U → Mem → Res U} {x : Str} {e : Expr} {es : List Expr} {ma : FA} {p pos : Pos} {j : Nat} (G : Good X W j) (hj : k ≤ j) (F : FnD X.prog X.w X.K X.mg X.base (L2.CX X.prog X.w) k f fd ps (spF X.K X.mg ps.length g))
    (ha : CA X W (e :: es) ma) (hp : ∀ {E : L2.St → XK} {t : TA}, (∀ σ, PassesAt (L2.CX X.prog X.w) X σ (E σ)) → PA X (e :: es) t → PE X (.Call (.Name x p) (e :: es) [] pos) (tCallS (spF X.K X.mg ps.length g) E t)) :
    CE X W (.Call (.Name x p) (e :: es) [] pos) (fDef ps.length g ma) := by
  intro ρ μ s σ H Q hs hm h
  refine ⟨_, hp (fun σ => passAt G.tk σ) pa_w, ?_⟩
  refine ha ρ μ s σ H _ hs hm (h.bind fun us μ1 vs H1 ρ1 t1 r1 h1 => ?_)
  split at h1
  · rename_i hl
    refine ⟨by rw [← RepVs.length r1]; exact hl, ρ1, μ1, us, r1, t1.mem, ?_⟩
    generalize g us μ1 = z at h1
    cases z with
    | ok u m => exact fun v H' ρ' t r => h1 v H' ρ' t r
    | ex c m => exact fun cls H' ρ' t e => h1 cls H' ρ' t e
    | bad => exact h1
  · exact h1.elim
def runDef (n : Nat) (body : FS) (us : List U) (μ : Mem) : Res U := match body (us.map some ++ List.replicate (n - us.length) none) μ with
  | .nx _ μ' => .ok .non μ'
  | .rt u μ' => .ok u μ'
  | .ex c _ μ' => .ex c μ'
  | _ => .bad
theorem RepS.start {K : PySem.W.Frag} {H : Hp} {ρ : List Addr} {us : List U} {vs : List V} {N : List Str} (r : RepVs K H ρ us vs) : RepS K H ρ (us.map some ++ List.replicate (N.length - us.length) none) (start N vs) := by
  refine ⟨by unfold L2.start; simp [r.length], fun i u e => ?_⟩
  by_cases hi : i < us.length
  · rw [List.getElem?_append_left (by simpa using hi), List.getElem?_map] at e
    cases eu : us[i]? with
    | none => rw [eu] at e; cases e
    | some w =>
      rw [eu] at e
      cases e
      obtain ⟨v, q, rr⟩ := r.get eu
      refine ⟨v, ?_, rr⟩
      unfold L2.start
      rw [List.getElem?_append_left (by rw [List.length_map, ← r.length]; exact hi), List.getElem?_map, q]
      rfl
  · rw [List.getElem?_append_right (by simpa using Nat.le_of_not_lt hi)] at e
    have := List.mem_of_getElem? e
    simp at this
end
end Dg
/-! Dg6: further rules: extend by a tuple, dict copies and displays, reversed copies, constants of the module, the end. -/
namespace Dg
open PySem PySem.Spec PyProof.Rows L2 RZ
section
variable {X : Cx} {W : WX} {k : Nat}
def fD0 : FE := fun _ μ => .ok (.ref μ.length) (μ ++ [.dct []])
theorem ce_d0 {pos : Pos} : CE X W (.Dict [] [] pos) fD0 := fun ρ μ s σ H Q hs hm h => ⟨_, pe_dnewK, fun p np => h.ok (newD hm np RepKV.nil) (refN hm)⟩
/-! ### constants of the module -/
def GlobC (K : PySem.W.Frag) (mg : Str → Option Value) (x : Str) (u : U) : Prop := ∃ z v, mg x = some z ∧ RelV v z ∧ ∀ H ρ, RepV K H ρ u v
theorem ce_globC {x : Str} {u : U} {pos : Pos} (hg : Gl X x) (h : GlobC X.K X.mg x u) (hd : (x == ("__debug__" : Str)) = false := by decide) : CE X W (.Name x pos) (fC u) := by
  obtain ⟨z, v, h1, h2, h3⟩ := h
  exact ce_glob hg h1 h2 h3 hd
/-! ### a comprehension's frame -/
theorem Good.blk {s : Shared} {H : Hp} {scope : Scope} {cenv : Env} {fp : List Addr} (G : Good X W k) : Good (X.blk s H scope cenv fp) W0 k := ⟨G.calm, ⟨G.room.hd, G.room.dp, G.room.un⟩, takes0, PassesOwn.never⟩
end
/-! ### a def that is never well asked -/
theorem fn_bad {P : Program} {w : World} {K : PySem.W.Frag} {mg : Str → Option Value} {base : Heap} {CX : CXT} {k : Nat} {f : Addr} {fd : FuncData} {ps : List Str} : FnD P w K mg base CX k f fd ps (spF K mg ps.length fun _ _ => .bad) := by
  have no : ∀ vs H Q E, ¬ spF K mg ps.length (fun _ _ => .bad) vs H Q E := fun vs H Q E ⟨_, _, _, _, _, _, h⟩ => h
  exact ⟨fun vs H Q E h => h.1, fun A outer s H args us vs Q E _ _ _ _ h => absurd h (no vs H Q E)⟩
/-! ### the end of a law -/
theorem end_of {K : PySem.W.Frag} {mg : Str → Option Value} {g : List U → Mem → Res U} {H : Hp} {a : Addr} {ns : List Int} (h : ∃ μ, g [.frl (ns.map U.int)] [] = .ok (.bl true) μ) (ho : Only H) (hS : SqL K H a (ns.map V.int)) :
    spF K mg 1 g [.ref a] H (fun v _ => v = .bl true) fun _ _ _ => False := by
  obtain ⟨μ, e⟩ := h
  have fr : FrL K H a (ns.map V.int) := by
    rcases hS with (h | ⟨o, h⟩) | h
    · rcases ho a with q | ⟨o, xs, q⟩ <;> (rw [h] at q; cases q)
    · exact .inl ⟨o, h⟩
    · exact .inr h
  refine ⟨rfl, [], [], [.frl (ns.map U.int)], .one (.frl fr (RepVs.ofInts ns)), ⟨rfl, List.nodup_nil, fun i c e => by simp at e⟩, ?_⟩
  rw [e]
  intro v H' ρ' _ r
  cases r
  rfl
/-! ### built-ins by name -/
theorem bt_len : bootBuiltins "len" = some (.builtin "len") := by decide +kernel
theorem bt_abs : bootBuiltins "abs" = some (.builtin "abs") := by decide +kernel
theorem bt_max : bootBuiltins "max" = some (.builtin "max") := by decide +kernel
theorem bt_min : bootBuiltins "min" = some (.builtin "min") := by decide +kernel
theorem bt_all : bootBuiltins "all" = some (.builtin "all") := by decide +kernel
theorem bt_isinstance : bootBuiltins "isinstance" = some (.builtin "isinstance") := by decide +kernel
theorem bt_int : bootBuiltins "int" = some (.type "int") := by decide +kernel
theorem bt_bool : bootBuiltins "bool" = some (.type "bool") := by decide +kernel
theorem bt_list : bootBuiltins "list" = some (.type "list") := by decide +kernel
theorem bt_tuple : bootBuiltins "tuple" = some (.type "tuple") := by decide +kernel
theorem kt_bool : ∀ t ∈ ["NoneType", "bool", "int", "str", "tuple", "list", "dict"], kitB t "bool" = some (isTy "bool" t) := by decide +kernel
theorem kt_tuple : ∀ t ∈ ["NoneType", "bool", "int", "str", "tuple", "list", "dict"], kitB t "tuple" = some (isTy "tuple" t) := by decide +kernel
end Dg
/-! Dg7: the head's facts for the mirror: constants by value, tables, defs. -/
namespace Dg
open PySem PySem.Spec PyProof.Rows L2 RZ
/-! ### a value of the written part is one of the mirror's -/
def repB (K : PySem.W.Frag) : Nat → Value → U → Bool
  | 0, _, _ => false
  | n + 1, v, u => match u with
    | .non => (match v with
      | .none => true
      | _ => false)
    | .bl b => (match v with
      | .bool c => decide (c = b)
      | _ => false)
    | .int i => (match v with
      | .int j _ => decide (j = i)
      | _ => false)
    | .str x => (match v with
      | .str y _ => decide (y = x) && PyData.strOk x
      | _ => false)
    | .tup us => (match v with
      | .ref a => (match K.lookup a with
        | some ⟨.type c, _, .seq its _, _⟩ => decide (c = "tuple") && (Nat.ble its.size 1000 && (decide (its.toList.length = us.length) && (its.toList.zip us).all fun p => repB K n p.1 p.2))
        | _ => false)
      | _ => false)
    | _ => false
def Reps (K : PySem.W.Frag) (v : Value) (u : U) : Prop := ∃ x, RelV x v ∧ ∀ H ρ, RepV K H ρ u x
theorem reps_all {K : PySem.W.Frag} {n : Nat} (ih : ∀ v u, repB K n v u = true → Reps K v u) : ∀ (its : List Value) (us : List U), its.length = us.length → ((its.zip us).all fun p => repB K n p.1 p.2) = true → ∃ vs, Vals vs its ∧ ∀ H ρ, RepVs K H ρ us vs
  | [], [], _, _ => ⟨[], .nil, fun _ _ => .nil⟩
  | [], _ :: _, h, _ => by simp at h
  | _ :: _, [], h, _ => by simp at h
  | v :: its, u :: us, h, q => by
    simp only [List.zip_cons_cons, List.all_cons, Bool.and_eq_true] at q
    obtain ⟨x, r1, r2⟩ := ih v u q.1
    obtain ⟨vs, s1, s2⟩ := reps_all ih its us (by simpa using h) q.2
    exact ⟨x :: vs, .cons r1 s1, fun H ρ => .cons (r2 H ρ) (s2 H ρ)⟩
theorem repB_ok {K : PySem.W.Frag} : ∀ (n : Nat) (v : Value) (u : U), repB K n v u = true → Reps K v u
  | 0, _, _, h => by simp [repB] at h
  | n + 1, v, u, h => by
    cases u with
    | non => cases v <;> first | exact ⟨.non, rfl, fun _ _ => .non⟩ | (simp [repB] at h)
    | bl b => cases v <;> first | (simp [repB] at h; subst h; exact ⟨.bl _, rfl, fun _ _ => .bl⟩) | (simp [repB] at h)
    | int i => cases v <;> first | (simp [repB] at h; subst h; exact ⟨.int _, ⟨_, rfl⟩, fun _ _ => .int⟩) | (simp [repB] at h)
    | str x => cases v <;> first | (simp [repB] at h; obtain ⟨h1, h2⟩ := h; subst h1; exact ⟨.str _, ⟨_, rfl⟩, fun _ _ => .str h2⟩) | (simp [repB] at h)
    | tup us =>
      cases v with
      | ref a =>
        simp only [repB] at h
        split at h
        · rename_i o c od its m sl e
          simp only [Bool.and_eq_true, decide_eq_true_eq] at h
          obtain ⟨h1, h2, h3, h4⟩ := h
          subst h1
          obtain ⟨vs, s1, s2⟩ := reps_all (fun v u q => repB_ok n v u q) its.toList us h3 h4
          refine ⟨.ref a, rfl, fun H ρ => .tup (.inr ⟨_, its, m, e, rfl, rfl, ?_, s1⟩) (s2 H ρ)⟩
          exact Nat.le_trans (Nat.le_of_ble_eq_true h2) (by decide)
        · cases h
      | _ => simp [repB] at h
    | ref i => simp [repB] at h
    | frl us => simp [repB] at h
/-! ### the facts -/
def keyN (e : DictEntry) : Option Str := match e.key with
  | .str x _ => some x
  | _ => none
def keysB (K : PySem.W.Frag) (a : Addr) (ks : List Str) : Bool := match K.lookup a with
  | some ⟨_, _, .dict es _, _⟩ => decide (es.toList.map keyN = ks.map some)
  | _ => false
inductive FaU where
  | con (x : Str) (u : U)
  | tab (x : Str) (kvs : List (Str × U))
  | isx (x y : Str) (b : Bool)
  | isv (x y : Str) (b : Bool)
  | keys (x : Str) (ks : List Str)
  /-- a table whose values are defs -/
  | ftab (x : Str) (kvs : List (Str × Nat × Str))
def exC (K : PySem.W.Frag) (D : Addr) : Bool := He.eqO (PySem.W.findIn K (.ref D) "__getattribute__") (some (some (.builtin "BaseException.__getattribute__"))) && (He.eqO (PySem.W.findIn K (.ref D) "__getattr__") (some none) &&
  (decide (PySem.W.subIn K (.ref D) (.type "BaseException") = some true) && (PySem.W.hasDictIn K D && (He.eqO (PySem.W.findIn K (.ref D) "__class__") (some (some (.builtin "object.__class__"))) &&
  (He.eqO (PySem.W.specialIn K (.builtin "object.__class__") "__get__") (some (some (.builtin "getset_descriptor.__get__"))) && (decide (PySem.W.takesIn K (.builtin "object.__class__") = some true) && decide (PySem.W.mroIn K D (.type "object") = some true)))))))
def FaU.ok (K : PySem.W.Frag) : FaU → Bool
  | .con x u => (match PySem.W.nsIn K mainGlobals x with
    | some (some v) => repB K 12 v u
    | _ => false)
  | .tab x kvs => kvs.all fun q => (match PySem.W.nsIn K (He.ga K x) q.1 with
    | some (some v) => repB K 12 v q.2
    | _ => false)
  | .isx x y b => exC K (He.ga K x) && decide (PySem.W.kitOne K (.ref (He.ga K x)) (.ref (He.ga K y)) = some b)
  | .isv x y b => exC K (He.ga K x) && decide (y = ("ValueError" : Str)) && decide (PySem.W.kitOne K (.ref (He.ga K x)) (.type "ValueError") = some b)
  | .keys x ks => keysB K (He.ga K x) ks
  | .ftab x kvs => kvs.all fun q => (match PySem.W.nsIn K (He.ga K x) q.1 with
    | some (some (.ref a)) => decide (a = He.ga K q.2.2)
    | _ => false)
abbrev AlU : Type := He.AlT × Bool
def obsU (fa : List He.Fa) (fn : List He.DefD) (ts : List He.Tab) (fu : List FaU) (K : PySem.W.Frag) : AlU := (He.obsT fa fn ts K, fu.all fun f => f.ok K)
def valU' (fn : List He.DefD) (ts : List He.Tab) (w : World) : AlU := (He.valT fn ts w, true)
def SaysU (fa : List He.Fa) (fn : List He.DefD) (ts : List He.Tab) (fu : List FaU) (w : World) (K : PySem.W.Frag) : Prop := obsU fa fn ts fu K = valU' fn ts w
def obsUG (n : Nat) (fa : List He.Fa) (fn : List He.DefD) (ts : List He.Tab) (fu : List FaU) (g : Addr → Option Obj) : AlU := obsU fa fn ts fu (He.frG g (He.asD g n))
def hookU (n : Nat) (fa : List He.Fa) (fn : List He.DefD) (ts : List He.Tab) (fu : List FaU) : PySem.W.Hook where
  α := AlU
  obs := fun s => obsUG n fa fn ts fu s.heap.get?
  val := fun w => valU' fn ts w
  says := fun w h => ∃ K : PySem.W.Frag, K.In h ∧ SaysU fa fn ts fu w K
  of := fun _ _ e => ⟨_, He.frG_in, e⟩
  keeps := fun _ _ _ ⟨K, hK, c⟩ k => ⟨K, PySem.W.Frag.In.keeps hK k, c⟩
section
variable {fa : List He.Fa} {fn : List He.DefD} {ts : List He.Tab} {fu : List FaU} {w : World} {K : PySem.W.Frag} {h : Heap} {mg : Str → Option Value}
theorem SaysU.t (c : SaysU fa fn ts fu w K) : He.SaysT fa fn ts w K := congrArg (fun z : AlU => z.1) c
theorem SaysU.f (c : SaysU fa fn ts fu w K) (i : Nat) {f : FaU} (hf : fu[i]? = some f := by rfl) : f.ok K = true := by
  have e : (fu.all fun f => f.ok K) = true := congrArg (fun z : AlU => z.2) c
  exact List.all_eq_true.mp e f (List.mem_of_getElem? hf)
theorem con_ok (X : K.In h) (G : h.Ns mainGlobals mg) {x : Str} {u : U} (c : (FaU.con x u).ok K = true) : GlobC K mg x u := by
  simp only [FaU.ok] at c
  cases e : PySem.W.nsIn K mainGlobals x with
  | none => rw [e] at c; cases c
  | some r =>
    rw [e] at c
    cases r with
    | none => cases c
    | some v =>
      obtain ⟨y, r1, r2⟩ := repB_ok 12 v u c
      exact ⟨v, y, PySem.W.mg_of X G e, r1, r2⟩
def AllP {α : Type} (p : α → Prop) : List α → Prop
  | [] => True
  | a :: r => p a ∧ AllP p r
theorem AllP.get {α : Type} {p : α → Prop} : ∀ {l : List α} {a : α}, AllP p l → a ∈ l → p a
  | b :: r, a, h, m => by
    rcases List.mem_cons.mp m with e | e
    · rw [e]; exact h.1
    · exact h.2.get e
end
/-! ### a def by its body, from such facts -/
abbrev FnP (K : PySem.W.Frag) (x : Str) (st : Stmt) (f : Addr) (fd : FuncData) : Prop := FunD K x x (defArgs st) (defBody st) (defScope st) [] [] f fd
theorem defD_ok {P : Program} {w : World} {K : PySem.W.Frag} {mg : Str → Option Value} {base : Heap} {x : Str} {st : Stmt} {f : Addr} {fd : FuncData} {N ps : List Str} {k : Nat} {body : FS} (F : FnP K x st f fd) (S : FnScope N ps (defScope st))
    (hb : ∀ (cdv : Value) (A : Around) (outer : List Env) (s : Shared) (H : Hp) (E : XK), Good (cxOf (L2.CX P w) P w K mg base N x (defScope st) f cdv A outer s H E) (fun cls d _ H => E cls d H) k →
      CSs (cxOf (L2.CX P w) P w K mg base N x (defScope st) f cdv A outer s H E) (fun cls d _ H => E cls d H) (defBody st) body) :
    FnD P w K mg base (L2.CX P w) (k + 1) f fd ps (spF K mg ps.length (runDef N.length body)) := by
  refine okD F S (fun vs H Q E h => h.1) (fun cdv A outer s H vs Q E hr h => ?_)
  obtain ⟨hl, ρ, μ, us, r, hm, hq⟩ := h
  have G : Good (cxOf (L2.CX P w) P w K mg base N x (defScope st) f cdv A outer s H E) (fun cls d _ H => E cls d H) k := ⟨rfl, hr, takes_of rfl rfl rfl rfl, passes_of rfl⟩
  refine hb cdv A outer s H E G ρ μ _ _ H _ (RepS.start r) hm ?_
  unfold runDef at hq
  cases e : body (us.map some ++ List.replicate (N.length - us.length) none) μ with
  | nx s' m => rw [e] at hq; exact fun σ' H' ρ' t _ => hq _ H' ρ' t .non
  | rt u m => rw [e] at hq; exact fun v H' ρ' t r => hq v H' ρ' t r
  | bk s' m => rw [e] at hq; exact hq.elim
  | ct s' m => rw [e] at hq; exact hq.elim
  | ex c s' m => rw [e] at hq; exact fun cls σ' H' ρ' t _ eq => hq cls H' ρ' t eq
  | bad => rw [e] at hq; exact hq.elim
/-- the end over a head by facts, what a def lets out told by the world -/
theorem walk_dg {l : PySem.W.OpenLaw} {n k : Nat} {q : Program} {loose : List Str} {XP : (Str → Option Value) → Heap → Prop} {YP : World → Heap → Prop} {d : DefRec} {CX : World → CXT} {x : Str}
    (hn : l.most = some n) (hl : n ≤ sizeLine) (hdf : d.params.defaults = []) (hk : k ≤ 690) (hCX : ∀ (w : World) (H : Hp) (s : Shared) (e : Value) (s' : Shared), CX w [] H s (fun _ _ _ => False) e s' → False)
    (F : ∀ (w : World) (mg : Str → Option Value) (fa : Addr) (h : Heap), YP w h → h.Ns mainGlobals mg → mg d.name = some (.ref fa) → ∃ (K : PySem.W.Frag) (fd : FuncData) (sp : Sp), K.In h ∧
      (∀ (s : Shared) (u : Value), BindsTo s fd ⟨[u], []⟩ [(x, u)]) ∧ (∀ (H : Hp) (a : Addr) (ns : List Int), ns.length ≤ n → Only H → SqL K H a (ns.map V.int) → sp [.ref a] H (fun v _ => v = .bl true) fun _ _ _ => False) ∧
      ∀ base : Heap, K.In base → base.Ns mainGlobals mg → FnD l.prog w K mg base (CX w) k fa fd [x] sp) :
    PySem.W.WalkO q loose XP YP l.row.toRowW d [] (fun f vs => PySem.call f vs) := by
  refine Att.attach_call hn hdf fun w s0 s1 mg mb fa o pm cd doc a vs ns G Y ho hd hcd hmg hob hi hle hg => ?_
  obtain ⟨K, fd, sp, KX, hb, hsp, hF⟩ := F w mg fa _ Y G.T.g hmg
  refine law_call KX G.T.g G.T.b G.T.builtins G.T.nolimit hg hob hi (Nat.le_trans hle hl) (k := 230) ⟨rfl, by decide, by decide⟩ (fun base h1 h2 => ((hF base h1 h2).up hk).ok) hb ?_ ?_
  · exact fun H hO hS => hsp H a ns hle hO hS
  · exact fun H e s' => hCX w H s1 e s'
theorem cx_none {P : Program} {w : World} (H : Hp) (s : Shared) (e : Value) (s' : Shared) (h : L2.CX P w [] H s (fun _ _ _ => False) e s') : False := by
  obtain ⟨_, _, _, _, _, _, _, _, _, _, _, _, z⟩ := h
  exact z.elim
end Dg
namespace Dg
open PySem PySem.Spec PyProof.Rows L2 RZ
/-- the facts over the objects at the addresses as: He.asD's eraseDups costs most of the kernel's memory -/
def obsUA (as : List Addr) (fa : List He.Fa) (fn : List He.DefD) (ts : List He.Tab) (fu : List FaU) (g : Addr → Option Obj) : AlU := obsU fa fn ts fu (He.frG g as)
def hookUA (as : List Addr) (fa : List He.Fa) (fn : List He.DefD) (ts : List He.Tab) (fu : List FaU) : PySem.W.Hook where
  α := AlU
  obs := fun s => obsUA as fa fn ts fu s.heap.get?
  val := (hookU 0 fa fn ts fu).val
  says := (hookU 0 fa fn ts fu).says
  of := fun _ _ e => ⟨_, He.frG_in, e⟩
  keeps := (hookU 0 fa fn ts fu).keeps
theorem obsUA_eq {as : List Addr} {fa : List He.Fa} {fn : List He.DefD} {ts : List He.Tab} {fu : List FaU} {g : Addr → Option Obj} {s : Shared} (h : ∀ a, g a = s.heap.get? a) : obsUA as fa fn ts fu g = (hookUA as fa fn ts fu).obs s := by
  have e : g = s.heap.get? := funext h
  rw [e]; rfl
end Dg
/-! Dq: a def of a class, by its body. -/
namespace Dg
open PySem PySem.Spec PyProof.Rows L2 RZ
/-- a statement of a class's body -/
def inCls (st : Stmt) (j : Nat) : Stmt := match st with
  | .ClassDef _ _ _ body _ _ _ _ _ _ _ => body.getD j (.Pass ⟨0, 0, 0, 0⟩)
  | _ => .Pass ⟨0, 0, 0, 0⟩
abbrev FnQ (K : PySem.W.Frag) (x q : Str) (st : Stmt) (f : Addr) (fd : FuncData) : Prop := FunD K x q (defArgs st) (defBody st) (defScope st) [] [] f fd
theorem defQ_ok {P : Program} {w : World} {K : PySem.W.Frag} {mg : Str → Option Value} {base : Heap} {x q : Str} {st : Stmt} {f : Addr} {fd : FuncData} {N ps : List Str} {k : Nat} {body : FS} (F : FnQ K x q st f fd) (S : FnScope N ps (defScope st))
    (hb : ∀ (cdv : Value) (A : Around) (outer : List Env) (s : Shared) (H : Hp) (E : XK), Good (cxOf (L2.CX P w) P w K mg base N q (defScope st) f cdv A outer s H E) (fun cls d _ H => E cls d H) k →
      CSs (cxOf (L2.CX P w) P w K mg base N q (defScope st) f cdv A outer s H E) (fun cls d _ H => E cls d H) (defBody st) body) :
    FnD P w K mg base (L2.CX P w) (k + 1) f fd ps (spF K mg ps.length (runDef N.length body)) := by
  refine okD F S (fun vs H Q E h => h.1) (fun cdv A outer s H vs Q E hr h => ?_)
  obtain ⟨hl, ρ, μ, us, r, hm, hq⟩ := h
  have G : Good (cxOf (L2.CX P w) P w K mg base N q (defScope st) f cdv A outer s H E) (fun cls d _ H => E cls d H) k := ⟨rfl, hr, takes_of rfl rfl rfl rfl, passes_of rfl⟩
  refine hb cdv A outer s H E G ρ μ _ _ H _ (RepS.start r) hm ?_
  unfold runDef at hq
  cases e : body (us.map some ++ List.replicate (N.length - us.length) none) μ with
  | nx s' m => rw [e] at hq; exact fun σ' H' ρ' t _ => hq _ H' ρ' t .non
  | rt u m => rw [e] at hq; exact fun v H' ρ' t r => hq v H' ρ' t r
  | bk s' m => rw [e] at hq; exact hq.elim
  | ct s' m => rw [e] at hq; exact hq.elim
  | ex c s' m => rw [e] at hq; exact fun cls σ' H' ρ' t _ eq => hq cls H' ρ' t eq
  | bad => rw [e] at hq; exact hq.elim
end Dg
namespace Lw
open PySem PySem.Spec PyProof.Rows L2 RZ Dg
/-! ### the text by places -/
def top (i : Nat) : Stmt := PySem.Challenge.pw_doppelganger_k27_least_machines.main.body.getD i (.Pass ⟨0, 0, 0, 0⟩)
abbrev s_met_from : Stmt := top 4
abbrev N_met_from : List Str := ["moves", "start", "found", "seen", "at", "entry", "state"]
theorem sc_met_from : FnScope N_met_from ["moves", "start"] (defScope s_met_from) := ⟨rfl, rfl, rfl, by decide +kernel, rfl, by decide +kernel, by decide +kernel⟩
abbrev s_live_states : Stmt := top 5
abbrev N_live_states : List Str := ["moves", "accepting", "sources", "state", "entry", "target", "waiting", "live", "before", "_"]
theorem sc_live_states : FnScope N_live_states ["moves", "accepting"] (defScope s_live_states) := ⟨rfl, rfl, rfl, by decide +kernel, rfl, by decide +kernel, by decide +kernel⟩
abbrev s_trimmed : Stmt := top 6
abbrev N_trimmed : List Str := ["moves", "accepting", "live", "kept", "numbers", "entries", "state", "number", "target"]
theorem sc_trimmed : FnScope N_trimmed ["moves", "accepting"] (defScope s_trimmed) := ⟨rfl, rfl, rfl, by decide +kernel, rfl, by decide +kernel, by decide +kernel⟩
abbrev s_Blocks_init : Stmt := inCls (top 7) 0
abbrev N_Blocks_init : List Str := ["self", "count", "state"]
theorem sc_Blocks_init : FnScope N_Blocks_init ["self", "count"] (defScope s_Blocks_init) := ⟨rfl, rfl, rfl, by decide +kernel, rfl, by decide +kernel, by decide +kernel⟩
abbrev s_Blocks_move_out : Stmt := inCls (top 7) 1
abbrev N_Blocks_move_out : List Str := ["self", "states", "block", "state"]
theorem sc_Blocks_move_out : FnScope N_Blocks_move_out ["self", "states", "block"] (defScope s_Blocks_move_out) := ⟨rfl, rfl, rfl, by decide +kernel, rfl, by decide +kernel, by decide +kernel⟩
abbrev s_Blocks_split_by : Stmt := inCls (top 7) 2
abbrev N_Blocks_split_by : List Str := ["self", "states", "parts", "state", "block", "part", "size", "inside"]
theorem sc_Blocks_split_by : FnScope N_Blocks_split_by ["self", "states"] (defScope s_Blocks_split_by) := ⟨rfl, rfl, rfl, by decide +kernel, rfl, by decide +kernel, by decide +kernel⟩
abbrev s_sources_by_letter : Stmt := top 8
abbrev N_sources_by_letter : List Str := ["letters", "moves", "found", "state", "entry", "letter", "target", "_"]
theorem sc_sources_by_letter : FnScope N_sources_by_letter ["letters", "moves"] (defScope s_sources_by_letter) := ⟨rfl, rfl, rfl, by decide +kernel, rfl, by decide +kernel, by decide +kernel⟩
abbrev s_blocks_of : Stmt := top 9
abbrev N_blocks_of : List Str := ["letters", "moves", "accepting", "sources", "blocks", "targets", "found", "state", "target"]
theorem sc_blocks_of : FnScope N_blocks_of ["letters", "moves", "accepting"] (defScope s_blocks_of) := ⟨rfl, rfl, rfl, by decide +kernel, rfl, by decide +kernel, by decide +kernel⟩
abbrev s_least : Stmt := top 10
abbrev N_least : List Str := ["letters", "moves", "accepting", "blocks", "examples", "joined", "order", "numbers", "members", "state", "target", "number", "block"]
theorem sc_least : FnScope N_least ["letters", "moves", "accepting"] (defScope s_least) := ⟨rfl, rfl, rfl, by decide +kernel, rfl, by decide +kernel, by decide +kernel⟩
abbrev s_are_moves : Stmt := top 14
abbrev N_are_moves : List Str := ["entry", "letters", "states", "target"]
theorem sc_are_moves : FnScope N_are_moves ["entry", "letters", "states"] (defScope s_are_moves) := ⟨rfl, rfl, rfl, by decide +kernel, rfl, by decide +kernel, by decide +kernel⟩
abbrev s_check_machine : Stmt := top 15
abbrev N_check_machine : List Str := ["machine", "letters", "moves", "accepting", "entry"]
theorem sc_check_machine : FnScope N_check_machine ["machine"] (defScope s_check_machine) := ⟨rfl, rfl, rfl, by decide +kernel, rfl, by decide +kernel, by decide +kernel⟩
abbrev s_least_machine : Stmt := top 16
abbrev N_least_machine : List Str := ["machine", "letters", "moves", "accepting"]
theorem sc_least_machine : FnScope N_least_machine ["machine"] (defScope s_least_machine) := ⟨rfl, rfl, rfl, by decide +kernel, rfl, by decide +kernel, by decide +kernel⟩
abbrev s__law_numbers : Stmt := top 18
abbrev N__law_numbers : List Str := ["script", "many", "numbers", "k", "cell", "j", "mixed", "base", "last"]
theorem sc__law_numbers : FnScope N__law_numbers ["script", "many"] (defScope s__law_numbers) := ⟨rfl, rfl, rfl, by decide +kernel, rfl, by decide +kernel, by decide +kernel⟩
abbrev s__law_machine : Stmt := top 19
abbrev N__law_machine : List Str := ["numbers", "at", "letters", "states", "gaps", "moves", "accepting", "state", "row", "letter", "number", "target"]
theorem sc__law_machine : FnScope N__law_machine ["numbers", "at", "letters", "states", "gaps"] (defScope s__law_machine) := ⟨rfl, rfl, rfl, by decide +kernel, rfl, by decide +kernel, by decide +kernel⟩
abbrev s__law_next : Stmt := top 20
abbrev N__law_next : List Str := ["machine", "state", "letter"]
theorem sc__law_next : FnScope N__law_next ["machine", "state", "letter"] (defScope s__law_next) := ⟨rfl, rfl, rfl, by decide +kernel, rfl, by decide +kernel, by decide +kernel⟩
abbrev s__law_ends : Stmt := top 21
abbrev N__law_ends : List Str := ["machine", "state"]
theorem sc__law_ends : FnScope N__law_ends ["machine", "state"] (defScope s__law_ends) := ⟨rfl, rfl, rfl, by decide +kernel, rfl, by decide +kernel, by decide +kernel⟩
abbrev s__law_first : Stmt := top 22
abbrev N__law_first : List Str := ["machine"]
theorem sc__law_first : FnScope N__law_first ["machine"] (defScope s__law_first) := ⟨rfl, rfl, rfl, by decide +kernel, rfl, by decide +kernel, by decide +kernel⟩
abbrev s__law_pairs : Stmt := top 23
abbrev N__law_pairs : List Str := ["first", "second", "pairs", "at", "letter", "pair"]
theorem sc__law_pairs : FnScope N__law_pairs ["first", "second"] (defScope s__law_pairs) := ⟨rfl, rfl, rfl, by decide +kernel, rfl, by decide +kernel, by decide +kernel⟩
abbrev s__law_alike : Stmt := top 24
abbrev N__law_alike : List Str := ["first", "second", "pair"]
theorem sc__law_alike : FnScope N__law_alike ["first", "second"] (defScope s__law_alike) := ⟨rfl, rfl, rfl, by decide +kernel, rfl, by decide +kernel, by decide +kernel⟩
abbrev s__law_useful : Stmt := top 25
abbrev N__law_useful : List Str := ["machine", "useful", "turn", "state", "target"]
theorem sc__law_useful : FnScope N__law_useful ["machine"] (defScope s__law_useful) := ⟨rfl, rfl, rfl, by decide +kernel, rfl, by decide +kernel, by decide +kernel⟩
abbrev s__law_least : Stmt := top 26
abbrev N__law_least : List Str := ["machine", "useful", "kinds", "turn", "marks", "state", "row", "target", "order", "seen", "moves", "at", "kind"]
theorem sc__law_least : FnScope N__law_least ["machine"] (defScope s__law_least) := ⟨rfl, rfl, rfl, by decide +kernel, rfl, by decide +kernel, by decide +kernel⟩
abbrev s__law_doubled : Stmt := top 27
abbrev N__law_doubled : List Str := ["machine", "numbers", "count", "moves", "state", "row", "target"]
theorem sc__law_doubled : FnScope N__law_doubled ["machine", "numbers"] (defScope s__law_doubled) := ⟨rfl, rfl, rfl, by decide +kernel, rfl, by decide +kernel, by decide +kernel⟩
abbrev s__law_line : Stmt := top 28
abbrev N__law_line : List Str := ["states", "moves", "state"]
theorem sc__law_line : FnScope N__law_line ["states"] (defScope s__law_line) := ⟨rfl, rfl, rfl, by decide +kernel, rfl, by decide +kernel, by decide +kernel⟩
abbrev s_law : Stmt := top 29
abbrev N_law : List Str := ["script", "numbers", "machine", "told", "one", "state"]
theorem sc_law : FnScope N_law ["script"] (defScope s_law) := ⟨rfl, rfl, rfl, by decide +kernel, rfl, by decide +kernel, by decide +kernel⟩
def d_met_from : He.DefD := ⟨("met_from", none), "met_from", "met_from", defArgs s_met_from, defBody s_met_from, defScope s_met_from, [], []⟩
def d_live_states : He.DefD := ⟨("live_states", none), "live_states", "live_states", defArgs s_live_states, defBody s_live_states, defScope s_live_states, [], []⟩
def d_trimmed : He.DefD := ⟨("trimmed", none), "trimmed", "trimmed", defArgs s_trimmed, defBody s_trimmed, defScope s_trimmed, [], []⟩
def d_Blocks_init : He.DefD := ⟨("Blocks", some "__init__"), "__init__", "Blocks.__init__", defArgs s_Blocks_init, defBody s_Blocks_init, defScope s_Blocks_init, [], []⟩
def d_Blocks_move_out : He.DefD := ⟨("Blocks", some "move_out"), "move_out", "Blocks.move_out", defArgs s_Blocks_move_out, defBody s_Blocks_move_out, defScope s_Blocks_move_out, [], []⟩
def d_Blocks_split_by : He.DefD := ⟨("Blocks", some "split_by"), "split_by", "Blocks.split_by", defArgs s_Blocks_split_by, defBody s_Blocks_split_by, defScope s_Blocks_split_by, [], []⟩
def d_sources_by_letter : He.DefD := ⟨("sources_by_letter", none), "sources_by_letter", "sources_by_letter", defArgs s_sources_by_letter, defBody s_sources_by_letter, defScope s_sources_by_letter, [], []⟩
def d_blocks_of : He.DefD := ⟨("blocks_of", none), "blocks_of", "blocks_of", defArgs s_blocks_of, defBody s_blocks_of, defScope s_blocks_of, [], []⟩
def d_least : He.DefD := ⟨("least", none), "least", "least", defArgs s_least, defBody s_least, defScope s_least, [], []⟩
def d_are_moves : He.DefD := ⟨("are_moves", none), "are_moves", "are_moves", defArgs s_are_moves, defBody s_are_moves, defScope s_are_moves, [], []⟩
def d_check_machine : He.DefD := ⟨("check_machine", none), "check_machine", "check_machine", defArgs s_check_machine, defBody s_check_machine, defScope s_check_machine, [], []⟩
def d_least_machine : He.DefD := ⟨("least_machine", none), "least_machine", "least_machine", defArgs s_least_machine, defBody s_least_machine, defScope s_least_machine, [], []⟩
def d__law_numbers : He.DefD := ⟨("_law_numbers", none), "_law_numbers", "_law_numbers", defArgs s__law_numbers, defBody s__law_numbers, defScope s__law_numbers, [], []⟩
def d__law_machine : He.DefD := ⟨("_law_machine", none), "_law_machine", "_law_machine", defArgs s__law_machine, defBody s__law_machine, defScope s__law_machine, [], []⟩
def d__law_next : He.DefD := ⟨("_law_next", none), "_law_next", "_law_next", defArgs s__law_next, defBody s__law_next, defScope s__law_next, [], []⟩
def d__law_ends : He.DefD := ⟨("_law_ends", none), "_law_ends", "_law_ends", defArgs s__law_ends, defBody s__law_ends, defScope s__law_ends, [], []⟩
def d__law_first : He.DefD := ⟨("_law_first", none), "_law_first", "_law_first", defArgs s__law_first, defBody s__law_first, defScope s__law_first, [], []⟩
def d__law_pairs : He.DefD := ⟨("_law_pairs", none), "_law_pairs", "_law_pairs", defArgs s__law_pairs, defBody s__law_pairs, defScope s__law_pairs, [], []⟩
def d__law_alike : He.DefD := ⟨("_law_alike", none), "_law_alike", "_law_alike", defArgs s__law_alike, defBody s__law_alike, defScope s__law_alike, [], []⟩
def d__law_useful : He.DefD := ⟨("_law_useful", none), "_law_useful", "_law_useful", defArgs s__law_useful, defBody s__law_useful, defScope s__law_useful, [], []⟩
def d__law_least : He.DefD := ⟨("_law_least", none), "_law_least", "_law_least", defArgs s__law_least, defBody s__law_least, defScope s__law_least, [], []⟩
def d__law_doubled : He.DefD := ⟨("_law_doubled", none), "_law_doubled", "_law_doubled", defArgs s__law_doubled, defBody s__law_doubled, defScope s__law_doubled, [], []⟩
def d__law_line : He.DefD := ⟨("_law_line", none), "_law_line", "_law_line", defArgs s__law_line, defBody s__law_line, defScope s__law_line, [], []⟩
def d_law : He.DefD := ⟨("law", none), "law", "law", defArgs s_law, defBody s_law, defScope s_law, [], []⟩
def hfn : List He.DefD := [d_met_from, d_live_states, d_trimmed, d_Blocks_init, d_Blocks_move_out, d_Blocks_split_by, d_sources_by_letter, d_blocks_of, d_least, d_are_moves, d_check_machine, d_least_machine, d__law_numbers, d__law_machine, d__law_next, d__law_ends, d__law_first, d__law_pairs, d__law_alike, d__law_useful, d__law_least, d__law_doubled, d__law_line, d_law]
def hfa : List He.Fa := [.glo "met_from", .glo "live_states", .glo "trimmed", .glo "sources_by_letter", .glo "blocks_of", .glo "least", .glo "are_moves", .glo "check_machine", .glo "least_machine", .glo "_law_numbers", .glo "_law_machine", .glo "_law_next", .glo "_law_ends", .glo "_law_first", .glo "_law_pairs", .glo "_law_alike", .glo "_law_useful", .glo "_law_least", .glo "_law_doubled", .glo "_law_line", .glo "law", .glo "Blocks", .cls "Blocks", .mkr "Blocks", .noat "Blocks" "block_of", .noat "Blocks" "members", .noat "Blocks" "pending", .meth "Blocks" "move_out", .meth "Blocks" "split_by", .free "abs", .free "all", .free "bool", .free "enumerate", .free "int", .free "isinstance", .free "len", .free "list", .free "max", .free "min", .free "range", .free "tuple", .glo "NotAllowed", .exc "NotAllowed"]
def hts : List He.Tab := []
def hfu : List FaU := [.con "MAX_MACHINE" (.int 400), .con "MAX_SIGNS" (.int 200)]
abbrev R : PySem.W.OpenRow := PySem.W.OpenLaw.row PySem.Challenge.rw_doppelganger_k27_least_machines
abbrev hk : PySem.W.Hook := hookUA (List.range 1000) hfa hfn hts hfu
def ob (s : PySem.W.SharedT) : AlU := obsUA (List.range 1000) hfa hfn hts hfu (HandSHeadRun.getT s)
theorem ob_eq (s : PySem.W.SharedT) : ob s = hk.obs s.abs := obsUA_eq (HandSHeadRun.getT_eq s)
def hloose : List PySem.Str := (["DoppelError", "NotAllowed", "met_from", "live_states", "trimmed", "Blocks", "sources_by_letter", "blocks_of", "least", "MAX_SIGNS", "MAX_MACHINE", "are_moves", "check_machine", "least_machine", "_law_numbers", "_law_machine"] : List PySem.Str) ++ (["_law_next", "_law_ends", "_law_first", "_law_pairs", "_law_alike", "_law_useful", "_law_least", "_law_doubled", "_law_line"] : List PySem.Str)
theorem run_f (w : World) : HandSHeadRun.RunEq R (PySem.W.view R.prog [29]) hk ob 6000 hloose (w.withFollow "special-get-raises" false) := by
  intro os
  kernel_rfl
theorem run_t (w : World) : HandSHeadRun.RunEq R (PySem.W.view R.prog [29]) hk ob 6000 hloose (w.withFollow "special-get-raises" true) := by
  intro os
  kernel_rfl
theorem run (w : World) : HandSHeadRun.RunEq R (PySem.W.view R.prog [29]) hk ob 6000 hloose w := PySem.W.byRow2 "special-get-raises" (P := fun w => HandSHeadRun.RunEq R (PySem.W.view R.prog [29]) hk ob 6000 hloose w) run_f run_t w
end Lw
/-! Dg8: reckoning with mirrors: what is wanted behind an expression, a statement. -/
namespace Dg
open PySem PySem.Spec PyProof.Rows L2 RZ
def wpE {α : Type} (r : Res α) (Q : α → Mem → Prop) (E : Str → Mem → Prop) : Prop := match r with
  | .ok a μ => Q a μ
  | .ex c μ => E c μ
  | .bad => False
structure Dn where
  nx : Slots → Mem → Prop
  rt : U → Mem → Prop
  bk : Slots → Mem → Prop
  ct : Slots → Mem → Prop
  ex : Str → Slots → Mem → Prop
def wpS (o : Out) (D : Dn) : Prop := match o with
  | .nx s μ => D.nx s μ
  | .rt u μ => D.rt u μ
  | .bk s μ => D.bk s μ
  | .ct s μ => D.ct s μ
  | .ex c s μ => D.ex c s μ
  | .bad => False
section
variable {α β : Type} {s : Slots} {μ : Mem} {E : Str → Mem → Prop} {D : Dn}
theorem wpE.mono {r : Res α} {Q Q' : α → Mem → Prop} (h : wpE r Q E) (k : ∀ a μ', Q a μ' → Q' a μ') : wpE r Q' E := by
  cases r with
  | ok a m => exact k a m h
  | ex c m => exact h
  | bad => exact h
theorem wpE.get {r : Res α} {Q : α → Mem → Prop} (h : wpE r Q fun _ _ => False) : ∃ a μ', r = .ok a μ' ∧ Q a μ' := by
  cases r with
  | ok a m => exact ⟨a, m, rfl, h⟩
  | ex c m => exact h.elim
  | bad => exact h.elim
theorem wpE.of {r : Res α} {Q : α → Mem → Prop} {a : α} {μ' : Mem} (e : r = .ok a μ') (q : Q a μ') : wpE r Q E := by
  rw [e]; exact q
theorem wpS.mono {o : Out} {D D' : Dn} (h : wpS o D) (n : ∀ s μ, D.nx s μ → D'.nx s μ) (r : ∀ u μ, D.rt u μ → D'.rt u μ) (b : ∀ s μ, D.bk s μ → D'.bk s μ) (c : ∀ s μ, D.ct s μ → D'.ct s μ) (e : ∀ x s μ, D.ex x s μ → D'.ex x s μ) : wpS o D' := by
  cases o with
  | nx s m => exact n s m h
  | rt u m => exact r u m h
  | bk s m => exact b s m h
  | ct s m => exact c s m h
  | ex x s m => exact e x s m h
  | bad => exact h
theorem w_bind {r : Res α} {k : α → Mem → Res β} {Q : β → Mem → Prop} : wpE (r.bind k) Q E = wpE r (fun a μ => wpE (k a μ) Q E) E := by cases r <;> rfl
theorem w_var {i : Nat} {Q : U → Mem → Prop} : wpE (fVar i s μ) Q E = ∃ u, s[i]? = some (some u) ∧ Q u μ := by
  unfold fVar
  split
  · rename_i u e
    apply propext
    exact ⟨fun q => ⟨u, e, q⟩, fun ⟨w, e2, q⟩ => by rw [e] at e2; cases e2; exact q⟩
  · rename_i h
    apply propext
    exact ⟨fun q => q.elim, fun ⟨w, e2, q⟩ => absurd e2 (h w)⟩
theorem w_c {u : U} {Q : U → Mem → Prop} : wpE (fC u s μ) Q E = Q u μ := propext ⟨fun h => h, fun h => h⟩
theorem w_op {f : U → U → Mem → Res U} {a b : FE} {Q : U → Mem → Prop} : wpE (fOp f a b s μ) Q E = wpE (a s μ) (fun u μ1 => wpE (b s μ1) (fun w μ2 => wpE (f u w μ2) Q E) E) E := by
  unfold fOp; rw [w_bind]; congr 1; funext u μ1; rw [w_bind]
theorem w_res {α : Type} {o : Option α} {Q : α → Mem → Prop} : wpE (opt o μ) Q E = ∃ a, o = some a ∧ Q a μ := by
  cases o with
  | none => apply propext; exact ⟨fun h => h.elim, fun ⟨a, e, _⟩ => nomatch e⟩
  | some a => apply propext; exact ⟨fun h => ⟨a, rfl, h⟩, fun ⟨b, e, h⟩ => by cases e; exact h⟩
theorem w_resB {o : Option Bool} {Q : U → Mem → Prop} : wpE (Dg.resB o μ) Q E = ∃ b, o = some b ∧ Q (.bl b) μ := by
  cases o with
  | none => apply propext; exact ⟨fun h => h.elim, fun ⟨a, e, _⟩ => nomatch e⟩
  | some a => apply propext; exact ⟨fun h => ⟨a, rfl, h⟩, fun ⟨b, e, h⟩ => by cases e; exact h⟩
theorem w_eq {u w : U} {Q : U → Mem → Prop} : wpE (uEq u w μ) Q E = ∃ b, eqU u w μ = some b ∧ Q (.bl b) μ := w_resB
theorem w_ne {u w : U} {Q : U → Mem → Prop} : wpE (uNe u w μ) Q E = ∃ b, eqU u w μ = some b ∧ Q (.bl (!b)) μ := by
  unfold uNe; rw [w_resB]
  apply propext
  constructor
  · rintro ⟨b, e, q⟩
    cases h : eqU u w μ with
    | none => rw [h] at e; cases e
    | some c => rw [h] at e; cases e; exact ⟨c, rfl, q⟩
  · rintro ⟨b, e, q⟩
    exact ⟨!b, by rw [e]; rfl, q⟩
theorem eq_str {a b : Str} : eqU (.str a) (.str b) μ = some (decide (a = b)) := by
  have : eqU (.str a) (.str b) μ = some (PyData.eqv (.str a) (.str b)) := rfl
  rw [this]
  congr 1
theorem eq_int {a b : Int} : eqU (.int a) (.int b) μ = some (decide (a = b)) := by
  have : eqU (.int a) (.int b) μ = some (PyData.eqv (.int a) (.int b)) := rfl
  rw [this]
  congr 1
theorem w_addI {i j : Int} {Q : U → Mem → Prop} : wpE (uAdd (.int i) (.int j) μ) Q E = Q (.int (i + j)) μ := propext ⟨fun h => h, fun h => h⟩
theorem w_subI {i j : Int} {Q : U → Mem → Prop} : wpE (uSub (.int i) (.int j) μ) Q E = Q (.int (i - j)) μ := propext ⟨fun h => h, fun h => h⟩
theorem w_mulI {i j : Int} {Q : U → Mem → Prop} : wpE (uMul (.int i) (.int j) μ) Q E = ((big64 i || big64 j) = true ∧ Q (.int (i * j)) μ) := by
  show wpE (if (big64 i || big64 j) = true then _ else _) Q E = _
  split
  · rename_i h; simp [h, wpE]
  · rename_i h; simp [h, wpE]
theorem w_modI {i j : Int} {Q : U → Mem → Prop} : wpE (uMod (.int i) (.int j) μ) Q E = (j ≠ 0 ∧ Q (.int (i.fmod j)) μ) := by
  show wpE (if j ≠ 0 then _ else _) Q E = _
  split
  · rename_i h; simp [h, wpE]
  · rename_i h; simp [h, wpE]
theorem w_fdivI {i j : Int} {Q : U → Mem → Prop} : wpE (uFdiv (.int i) (.int j) μ) Q E = ((j ≠ 0 ∧ j.natAbs < 1073741824) ∧ Q (.int (i.fdiv j)) μ) := by
  show wpE (if j ≠ 0 ∧ j.natAbs < 1073741824 then _ else _) Q E = _
  split
  · rename_i h; simp [h, wpE]
  · rename_i h; simp only [h, wpE]; simp
theorem w_ltI {i j : Int} {Q : U → Mem → Prop} : wpE (uLt (.int i) (.int j) μ) Q E = Q (.bl (decide (i < j))) μ := propext ⟨fun h => h, fun h => h⟩
theorem w_leI {i j : Int} {Q : U → Mem → Prop} : wpE (uLe (.int i) (.int j) μ) Q E = Q (.bl (decide (i ≤ j))) μ := propext ⟨fun h => h, fun h => h⟩
theorem w_gtI {i j : Int} {Q : U → Mem → Prop} : wpE (uGt (.int i) (.int j) μ) Q E = Q (.bl (decide (j < i))) μ := propext ⟨fun h => h, fun h => h⟩
theorem w_geI {i j : Int} {Q : U → Mem → Prop} : wpE (uGe (.int i) (.int j) μ) Q E = Q (.bl (decide (j ≤ i))) μ := propext ⟨fun h => h, fun h => h⟩
/-! items -/
theorem w_ixT {us : List U} {i : Int} {Q : U → Mem → Prop} : wpE (ixU (.tup us) (.int i) μ) Q E = ∃ a, atI us i = some a ∧ Q a μ := w_res
theorem ix_L {r : Nat} {us : List U} {i : Int} (h : μ[r]? = some (.lst us)) : ixU (.ref r) (.int i) μ = opt (atI us i) μ := by
  unfold ixU dctU seqU
  simp only [h]
theorem w_ixL {r : Nat} {us : List U} {i : Int} {Q : U → Mem → Prop} (h : μ[r]? = some (.lst us)) : wpE (ixU (.ref r) (.int i) μ) Q E = ∃ a, atI us i = some a ∧ Q a μ := by rw [ix_L h, w_res]
theorem w_ixD {r : Nat} {kvs : List (Key × U)} {x : Str} {Q : U → Mem → Prop} (h : μ[r]? = some (.dct kvs)) : wpE (ixU (.ref r) (.str x) μ) Q E = ∃ a, valU kvs (.inr x) = some a ∧ Q a μ := by
  have : ixU (.ref r) (.str x) μ = opt (valU kvs (.inr x)) μ := by
    unfold ixU dctU
    simp only [h, keyU]
  rw [this, w_res]
/-! calls -/
theorem w_call {g : List U → Mem → Res U} {a : FA} {Q : U → Mem → Prop} : wpE (fCall g a s μ) Q E = wpE (a s μ) (fun us μ1 => wpE (g us μ1) Q E) E := w_bind
theorem w_def {n : Nat} {g : List U → Mem → Res U} {a : FA} {Q : U → Mem → Prop} : wpE (fDef n g a s μ) Q E = wpE (a s μ) (fun us μ1 => us.length = n ∧ wpE (g us μ1) Q E) E := by
  unfold fDef; rw [w_bind]; congr 1; funext us μ1
  split
  · rename_i h; simp [h]
  · rename_i h; simp [h, wpE]
theorem w_anil {Q : List U → Mem → Prop} : wpE (aNil s μ) Q E = Q [] μ := propext ⟨fun h => h, fun h => h⟩
theorem w_acons {a : FE} {r : FA} {Q : List U → Mem → Prop} : wpE (aCons a r s μ) Q E = wpE (a s μ) (fun u μ1 => wpE (r s μ1) (fun us μ2 => Q (u :: us) μ2) E) E := by
  unfold aCons; rw [w_bind]; congr 1; funext u μ1; rw [w_bind]; rfl
theorem w_tup {a : FA} {Q : U → Mem → Prop} : wpE (fTup a s μ) Q E = wpE (a s μ) (fun us μ1 => us.length ≤ lim ∧ Q (.tup us) μ1) E := by
  unfold fTup; rw [w_bind]; congr 1; funext us μ1
  split
  · rename_i h; simp [h, wpE]
  · rename_i h; simp [h, wpE]
theorem w_lst {a : FA} {Q : U → Mem → Prop} : wpE (fLst a s μ) Q E = wpE (a s μ) (fun us μ1 => us.length ≤ lim ∧ Q (.ref μ1.length) (μ1 ++ [.lst us])) E := by
  unfold fLst; rw [w_bind]; congr 1; funext us μ1
  split
  · rename_i h; simp [h, wpE]
  · rename_i h; simp [h, wpE]
theorem w_int {i : Int} {Q : U → Mem → Prop} : wpE (bInt [.int i] μ) Q E = Q (.int i) μ := propext ⟨fun h => h, fun h => h⟩
theorem w_intB {b : Bool} {Q : U → Mem → Prop} : wpE (bInt [.bl b] μ) Q E = Q (.int (if b then 1 else 0)) μ := propext ⟨fun h => h, fun h => h⟩
theorem w_lenT {us : List U} {Q : U → Mem → Prop} : wpE (bLen [.tup us] μ) Q E = Q (.int us.length) μ := propext ⟨fun h => h, fun h => h⟩
theorem w_lenL {r : Nat} {us : List U} {Q : U → Mem → Prop} (h : μ[r]? = some (.lst us)) : wpE (bLen [.ref r] μ) Q E = Q (.int us.length) μ := by
  have : bLen [.ref r] μ = .ok (.int us.length) μ := by unfold bLen lenU; simp only [h]
  rw [this]; rfl
theorem w_tupleL {r : Nat} {us : List U} {Q : U → Mem → Prop} (h : μ[r]? = some (.lst us)) : wpE (bTuple [.ref r] μ) Q E = Q (.tup us) μ := by
  have : bTuple [.ref r] μ = .ok (.tup us) μ := by unfold bTuple seqU; simp only [h]
  rw [this]; rfl
theorem w_d0 {Q : U → Mem → Prop} : wpE (fD0 s μ) Q E = Q (.ref μ.length) (μ ++ [.dct []]) := propext ⟨fun h => h, fun h => h⟩
theorem w_app {o : FE} {a : FA} {Q : U → Mem → Prop} {g : U → List U → Mem → Res U} : wpE (fMtL g o a s μ) Q E = wpE (o s μ) (fun u μ1 => ∃ us, lstU μ1 u = some us ∧ wpE (a s μ1) (fun us μ2 => wpE (g u us μ2) Q E) E) E := by
  unfold fMtL; rw [w_bind]; congr 1; funext u μ1
  cases e : lstU μ1 u with
  | none => simp [wpE]
  | some us => simp only [w_bind]; simp
theorem lstU_L {r : Nat} {us : List U} (h : μ[r]? = some (.lst us)) : lstU μ (.ref r) = some us := by unfold lstU; simp only [h]
theorem w_append {r : Nat} {us : List U} {w : U} {Q : U → Mem → Prop} (h : μ[r]? = some (.lst us)) (hl : us.length < lim) : wpE (gAppend (.ref r) [w] μ) Q E = Q .non (μ.set r (.lst (us ++ [w]))) := by
  have : gAppend (.ref r) [w] μ = .ok .non (μ.set r (.lst (us ++ [w]))) := by unfold gAppend; simp only [h, hl, if_true]
  rw [this]; rfl
theorem w_pop {r : Nat} {us : List U} {w : U} {Q : U → Mem → Prop} (h : μ[r]? = some (.lst (us ++ [w]))) : wpE (gPop (.ref r) [] μ) Q E = Q w (μ.set r (.lst us)) := by
  have : gPop (.ref r) [] μ = .ok w (μ.set r (.lst us)) := by
    unfold gPop
    simp only [h]
    simp
  rw [this]; rfl
/-! tests -/
theorem w_tstB {a : FE} {Q : Bool → Mem → Prop} : wpE (tstB a s μ) Q E = wpE (a s μ) (fun u μ1 => ∃ b, u = .bl b ∧ Q b μ1) E := by
  unfold tstB; rw [w_bind]; congr 1; funext u μ1
  cases u <;> simp [wpE]
theorem w_tst {a : FE} {Q : Bool → Mem → Prop} : wpE (tst a s μ) Q E = wpE (a s μ) (fun u μ1 => ∃ b, truU μ1 u = some b ∧ Q b μ1) E := by
  unfold tst; rw [w_bind]; congr 1; funext u μ1
  cases truU μ1 u <;> simp [wpE]
theorem w_nt {t : FT} {Q : Bool → Mem → Prop} : wpE (tNt t s μ) Q E = wpE (t s μ) (fun b μ1 => Q (!b) μ1) E := w_bind
theorem w_an {t u : FT} {Q : Bool → Mem → Prop} : wpE (tAn t u s μ) Q E = wpE (t s μ) (fun b μ1 => if b = true then wpE (u s μ1) Q E else Q false μ1) E := by
  unfold tAn; rw [w_bind]; congr 1; funext b μ1; cases b <;> simp [wpE]
theorem w_or {t u : FT} {Q : Bool → Mem → Prop} : wpE (tOr' t u s μ) Q E = wpE (t s μ) (fun b μ1 => if b = true then Q true μ1 else wpE (u s μ1) Q E) E := by
  unfold tOr'; rw [w_bind]; congr 1; funext b μ1; cases b <;> simp [wpE]
theorem w_all {Q : Bool → Mem → Prop} : wpE (tAll s μ) Q E = Q true μ := propext ⟨fun h => h, fun h => h⟩
theorem w_if {t : FT} {a b : FE} {Q : U → Mem → Prop} : wpE (fIf t a b s μ) Q E = wpE (t s μ) (fun c μ1 => if c = true then wpE (a s μ1) Q E else wpE (b s μ1) Q E) E := by
  unfold fIf; rw [w_bind]; congr 1; funext b μ1; cases b <;> simp
/-! statements -/
theorem w_ofR {r : Res α} {k : α → Mem → Out} : wpS (ofR r s k) D = wpE r (fun a μ => wpS (k a μ) D) (fun c μ => D.ex c s μ) := by cases r <;> rfl
theorem s_seq {a b : FS} : wpS (sSeq a b s μ) D = wpS (a s μ) { D with nx := fun s1 μ1 => wpS (b s1 μ1) D } := by
  unfold sSeq
  cases a s μ <;> rfl
theorem s_next : wpS (sNext s μ) D = D.nx s μ := propext ⟨fun h => h, fun h => h⟩
theorem s_brk : wpS (sBrk s μ) D = D.bk s μ := propext ⟨fun h => h, fun h => h⟩
theorem s_cnt : wpS (sCnt s μ) D = D.ct s μ := propext ⟨fun h => h, fun h => h⟩
theorem s_expr {a : FE} : wpS (sExpr a s μ) D = wpE (a s μ) (fun _ μ1 => D.nx s μ1) (fun c μ => D.ex c s μ) := w_ofR
theorem s_ret {a : FE} : wpS (sRet a s μ) D = wpE (a s μ) (fun u μ1 => D.rt u μ1) (fun c μ => D.ex c s μ) := w_ofR
theorem s_retN : wpS (sRetN s μ) D = D.rt .non μ := propext ⟨fun h => h, fun h => h⟩
theorem s_if {t : FT} {a b : FS} : wpS (sIf t a b s μ) D = wpE (t s μ) (fun c μ1 => if c = true then wpS (a s μ1) D else wpS (b s μ1) D) (fun c μ => D.ex c s μ) := by
  unfold sIf; rw [w_ofR]; congr 1; funext c μ1; cases c <;> simp
theorem s_asg {g : Tgt} {a : FE} : wpS (sAsg g a s μ) D = wpE (a s μ) (fun u μ1 => ∃ s1, setT g u s = some s1 ∧ D.nx s1 μ1) (fun c μ => D.ex c s μ) := by
  unfold sAsg; rw [w_ofR]; congr 1; funext u μ1
  cases setT g u s <;> simp [wpS]
theorem s_asg1 {i : Nat} {a : FE} : wpS (sAsg (.one i) a s μ) D = wpE (a s μ) (fun u μ1 => D.nx (s.set i (some u)) μ1) (fun c μ => D.ex c s μ) := by
  rw [s_asg]; congr 1; funext u μ1; simp [setT]
theorem s_store {o i a : FE} : wpS (sStore o i a s μ) D = wpE (a s μ) (fun u μ1 => wpE (o s μ1) (fun x μ2 => wpE (i s μ2) (fun y μ3 => ∃ μ4, stU x y u μ3 = some μ4 ∧ D.nx s μ4) (fun c μ => D.ex c s μ)) (fun c μ => D.ex c s μ)) (fun c μ => D.ex c s μ) := by
  unfold sStore; rw [w_ofR]; congr 1; funext u μ1; rw [w_ofR]; congr 1; funext x μ2; rw [w_ofR]; congr 1; funext y μ3
  cases stU x y u μ3 <;> simp [wpS]
theorem stU_L {r j : Nat} {us : List U} {i : Int} {u : U} (h : μ[r]? = some (.lst us)) (hj : ixN us.length i = some j) : stU (.ref r) (.int i) u μ = some (μ.set r (.lst (us.set j u))) := by
  unfold stU; simp only [h, hj]
/-- a def's run -/
theorem w_run {n : Nat} {body : FS} {us : List U} {Q : U → Mem → Prop} : wpE (runDef n body us μ) Q E = wpS (body (us.map some ++ List.replicate (n - us.length) none) μ) ⟨fun _ μ' => Q .non μ', Q, fun _ _ => False, fun _ _ => False, fun c _ μ' => E c μ'⟩ := by
  unfold runDef
  cases body (us.map some ++ List.replicate (n - us.length) none) μ <;> rfl
/-! ### loops -/
theorem w_for {it : FI} {g : Tgt} {b : FS} : wpS (sFor it g b s μ) D = wpE (it s μ) (fun j μ1 => wpS (sForGo g b fuelF j 0 s μ1) D) (fun c μ => D.ex c s μ) := w_ofR
/-- a for by what holds at each turn -/
theorem for_by {j : IterU} {g : Tgt} {b : FS} (I : Nat → Slots → Mem → Prop) (n : Nat) (hb : ∀ i s μ, I i s μ → i ≤ n)
    (step : ∀ i s μ, I i s μ → (itemAt j i μ = some none ∧ D.nx s μ) ∨ ∃ u s1, itemAt j i μ = some (some u) ∧ setT g u s = some s1 ∧ wpS (b s1 μ) ⟨I (i + 1), D.rt, D.nx, I (i + 1), D.ex⟩) :
    ∀ (f i : Nat) (s : Slots) (μ : Mem), n < f + i → I i s μ → wpS (sForGo g b f j i s μ) D
  | 0, i, s, μ, hf, h => by
    have := hb i s μ h
    omega
  | f + 1, i, s, μ, hf, h => by
    rcases step i s μ h with ⟨e, q⟩ | ⟨u, s1, e, e2, q⟩
    · simp only [sForGo, e]; exact q
    · simp only [sForGo, e, e2]
      cases eb : b s1 μ with
      | nx s2 μ2 => rw [eb] at q; exact for_by I n hb step f (i + 1) s2 μ2 (by omega) q
      | ct s2 μ2 => rw [eb] at q; exact for_by I n hb step f (i + 1) s2 μ2 (by omega) q
      | bk s2 μ2 => rw [eb] at q; exact q
      | rt u m2 => rw [eb] at q; exact q
      | ex c2 u m2 => rw [eb] at q; exact q
      | bad => rw [eb] at q; exact q
theorem for_go {j : IterU} {g : Tgt} {b : FS} (I : Nat → Slots → Mem → Prop) (n : Nat) (hn : n < 1000000) (h0 : I 0 s μ) (hb : ∀ i s μ, I i s μ → i ≤ n)
    (step : ∀ i s μ, I i s μ → (itemAt j i μ = some none ∧ D.nx s μ) ∨ ∃ u s1, itemAt j i μ = some (some u) ∧ setT g u s = some s1 ∧ wpS (b s1 μ) ⟨I (i + 1), D.rt, D.nx, I (i + 1), D.ex⟩) : wpS (sForGo g b fuelF j 0 s μ) D :=
  for_by I n hb step fuelF 0 s μ (by unfold fuelF; omega) h0
/-- a while by a measure -/
theorem while_by' {t : FT} {b : FS} (I : Nat → Slots → Mem → Prop)
    (step : ∀ m s μ, I m s μ → wpE (t s μ) (fun c μ1 => if c = true then ∃ m', m = m' + 1 ∧ wpS (b s μ1) ⟨I m', D.rt, D.nx, I m', D.ex⟩ else D.nx s μ1) (fun c μ => D.ex c s μ)) :
    ∀ (f m : Nat) (s : Slots) (μ : Mem), m < f → I m s μ → wpS (sWhile t b f s μ) D
  | 0, m, s, μ, hf, h => by omega
  | f + 1, m, s, μ, hf, h => by
    have q := step m s μ h
    simp only [sWhile, w_ofR]
    refine wpE.mono q fun c μ1 hc => ?_
    cases c with
    | false => simpa [wpS] using hc
    | true =>
      simp only [if_true] at hc
      obtain ⟨m', rfl, q2⟩ := hc
      cases eb : b s μ1 with
      | nx s2 μ2 => rw [eb] at q2; exact while_by' I step f m' s2 μ2 (by omega) q2
      | ct s2 μ2 => rw [eb] at q2; exact while_by' I step f m' s2 μ2 (by omega) q2
      | bk s2 μ2 => rw [eb] at q2; exact q2
      | rt u m2 => rw [eb] at q2; exact q2
      | ex c2 u m2 => rw [eb] at q2; exact q2
      | bad => rw [eb] at q2; exact q2
theorem while_go {t : FT} {b : FS} (I : Nat → Slots → Mem → Prop) {m : Nat} (hm : m < 1000000) (h0 : I m s μ)
    (step : ∀ m s μ, I m s μ → wpE (t s μ) (fun c μ1 => if c = true then ∃ m', m = m' + 1 ∧ wpS (b s μ1) ⟨I m', D.rt, D.nx, I m', D.ex⟩ else D.nx s μ1) (fun c μ => D.ex c s μ)) : wpS (sWhile t b fuelF s μ) D :=
  while_by' I step fuelF m s μ (by unfold fuelF; omega) h0
/-- a comprehension by what holds at each turn -/
theorem w_lc {it : FI} {own : List Nat} {g : Tgt} {t : FT} {e : FE} {Q : U → Mem → Prop} : wpE (fLc it own g t e s μ) Q E = wpE (it s μ) (fun j μ1 => wpE (lcGo j own g t e s μ1.length fuelF 0 (μ1 ++ [.lst []])) Q E) E := w_bind
theorem lc_by {j : IterU} {own : List Nat} {g : Tgt} {t : FT} {e : FE} {d : Nat} {Q : U → Mem → Prop} (I : Nat → Mem → Prop) (n : Nat) (hb : ∀ i μ, I i μ → i ≤ n)
    (step : ∀ i μ, I i μ → (itemAt j i μ = some none ∧ Q (.ref d) μ) ∨ ∃ u s1, itemAt j i μ = some (some u) ∧ setT g u (wipeU s own) = some s1 ∧
      wpE (t s1 μ) (fun b μ3 => if b = true then wpE (e s1 μ3) (fun v μ4 => ∃ acc, μ4[d]? = some (.lst acc) ∧ acc.length < lim ∧ I (i + 1) (μ4.set d (.lst (acc ++ [v])))) (fun _ _ => False) else I (i + 1) μ3) (fun _ _ => False)) :
    ∀ (f i : Nat) (μ : Mem), n < f + i → I i μ → wpE (lcGo j own g t e s d f i μ) Q E
  | 0, i, μ, hf, h => by
    have := hb i μ h
    omega
  | f + 1, i, μ, hf, h => by
    rcases step i μ h with ⟨e0, q⟩ | ⟨u, s1, e0, e2, q⟩
    · simp only [lcGo, e0]; exact q
    · simp only [lcGo, e0, e2]
      cases et : t s1 μ with
      | ex c m => rw [et] at q; exact q.elim
      | bad => rw [et] at q; exact q.elim
      | ok b μ3 =>
        rw [et] at q
        cases b with
        | false => exact lc_by I n hb step f (i + 1) μ3 (by omega) q
        | true =>
          have q' : wpE (e s1 μ3) (fun v μ4 => ∃ acc, μ4[d]? = some (.lst acc) ∧ acc.length < lim ∧ I (i + 1) (μ4.set d (.lst (acc ++ [v])))) (fun _ _ => False) := q
          cases ee : e s1 μ3 with
          | ex c m => rw [ee] at q'; exact q'.elim
          | bad => rw [ee] at q'; exact q'.elim
          | ok v μ4 =>
            rw [ee] at q'
            obtain ⟨acc, a1, a2, a3⟩ := q'
            simp only [ee, a1, a2, if_true]
            exact lc_by I n hb step f (i + 1) _ (by omega) a3
theorem lc_go {j : IterU} {own : List Nat} {g : Tgt} {t : FT} {e : FE} {d : Nat} {Q : U → Mem → Prop} (I : Nat → Mem → Prop) (n : Nat) (hn : n < 1000000) (h0 : I 0 μ) (hb : ∀ i μ, I i μ → i ≤ n)
    (step : ∀ i μ, I i μ → (itemAt j i μ = some none ∧ Q (.ref d) μ) ∨ ∃ u s1, itemAt j i μ = some (some u) ∧ setT g u (wipeU s own) = some s1 ∧
      wpE (t s1 μ) (fun b μ3 => if b = true then wpE (e s1 μ3) (fun v μ4 => ∃ acc, μ4[d]? = some (.lst acc) ∧ acc.length < lim ∧ I (i + 1) (μ4.set d (.lst (acc ++ [v])))) (fun _ _ => False) else I (i + 1) μ3) (fun _ _ => False)) :
    wpE (lcGo j own g t e s d fuelF 0 μ) Q E := lc_by I n hb step fuelF 0 μ (by unfold fuelF; omega) h0
/-! what is walked -/
theorem w_iseqT {a : FE} {Q : IterU → Mem → Prop} : wpE (iSeq a s μ) Q E = wpE (a s μ) (fun u μ1 => match u with
  | .tup us => Q (.seq us) μ1
  | .frl us => Q (.seq us) μ1
  | .str z => Q (.seq (signsU z)) μ1
  | .ref r => ∃ us, listAt μ1 r = some us ∧ Q (.live r) μ1
  | _ => False) E := by
  unfold iSeq; rw [w_bind]; congr 1; funext u μ1
  cases u with
  | ref r =>
    simp only
    cases listAt μ1 r <;> simp [wpE]
  | _ => rfl
theorem w_rg1 {a : FE} {Q : IterU → Mem → Prop} : wpE (iRg1 a s μ) Q E = wpE (a s μ) (fun u μ1 => ∃ n, u = .int n ∧ okR n = true ∧ Q (.rng 0 1 n.toNat) μ1) E := by
  unfold iRg1; rw [w_bind]; congr 1; funext u μ1
  cases u with
  | int n =>
    simp only
    split
    · rename_i h; simp [h, wpE]
    · rename_i h; simp [h, wpE]
  | _ => simp [wpE]
theorem w_rev1 {a : FE} {Q : IterU → Mem → Prop} : wpE (iRev1 a s μ) Q E = wpE (a s μ) (fun u μ1 => ∃ n, u = .int n ∧ okR n = true ∧ Q (.rng (n.toNat - 1) (-1) n.toNat) μ1) E := by
  unfold iRev1; rw [w_bind]; congr 1; funext u μ1
  cases u with
  | int n =>
    simp only
    split
    · rename_i h; simp [h, wpE]
    · rename_i h; simp [h, wpE]
  | _ => simp [wpE]
theorem listAt_L {r : Nat} {us : List U} (h : μ[r]? = some (.lst us)) : listAt μ r = some us := by unfold listAt; simp only [h]
theorem item_live {r i : Nat} {us : List U} (h : μ[r]? = some (.lst us)) : itemAt (.live r) i μ = some us[i]? := by
  simp only [itemAt, listAt_L h]; rfl
theorem item_rng {lo c : Int} {n i : Nat} : itemAt (.rng lo c n) i μ = some (if i < n then some (.int (lo + (i : Int) * c)) else none) := rfl
theorem item_seq {us : List U} {i : Nat} : itemAt (.seq us) i μ = some us[i]? := rfl
end
/-! ### places -/
theorem atI_nat {α : Type} {xs : List α} (n : Nat) : atI xs (n : Int) = xs[n]? := by
  unfold L2.atI L2.ixN
  rw [if_pos (by omega)]
  by_cases h : n < xs.length
  · rw [if_pos (by omega)]
    simp
  · rw [if_neg (by omega)]
    simp
    omega
theorem atI_0 {α : Type} {x : α} {xs : List α} : atI (x :: xs) 0 = some x := atI_nat (xs := x :: xs) 0
theorem atI_1 {α : Type} {x y : α} {xs : List α} : atI (x :: y :: xs) 1 = some y := atI_nat (xs := x :: y :: xs) 1
theorem atI_2 {α : Type} {x y z : α} {xs : List α} : atI (x :: y :: z :: xs) 2 = some z := atI_nat (xs := x :: y :: z :: xs) 2
theorem atI_3 {α : Type} {x y z a : α} {xs : List α} : atI (x :: y :: z :: a :: xs) 3 = some a := atI_nat (xs := x :: y :: z :: a :: xs) 3
theorem atI_4 {α : Type} {x y z a b : α} {xs : List α} : atI (x :: y :: z :: a :: b :: xs) 4 = some b := atI_nat (xs := x :: y :: z :: a :: b :: xs) 4
theorem atI_5 {α : Type} {x y z a b c : α} {xs : List α} : atI (x :: y :: z :: a :: b :: c :: xs) 5 = some c := atI_nat (xs := x :: y :: z :: a :: b :: c :: xs) 5
theorem atI_in {α : Type} {xs : List α} {i : Int} (h0 : 0 ≤ i) (h1 : i < xs.length) : ∃ a, atI xs i = some a ∧ a ∈ xs := by
  obtain ⟨j, rfl⟩ := Int.eq_ofNat_of_zero_le h0
  have hl : j < xs.length := by omega
  exact ⟨xs[j], (atI_nat j).trans (List.getElem?_eq_getElem hl), List.getElem_mem _⟩
theorem fmod_in {x m : Int} (h : 0 < m) : 0 ≤ x.fmod m ∧ x.fmod m < m := by
  rw [Int.fmod_eq_emod_of_nonneg _ (by omega)]
  exact ⟨Int.emod_nonneg _ (by omega), Int.emod_lt_of_pos _ h⟩
/-! ### memories that grow -/
/-- all but the cell s stays -/
structure Gr (s : Nat) (μ μ' : Mem) : Prop where
  le : μ.length ≤ μ'.length
  at_ : ∀ i, i < μ.length → i ≠ s → μ'[i]? = μ[i]?
theorem Gr.refl {s : Nat} {μ : Mem} : Gr s μ μ := ⟨Nat.le_refl _, fun _ _ _ => rfl⟩
theorem Gr.trans {s : Nat} {a b c : Mem} (h : Gr s a b) (g : Gr s b c) : Gr s a c := ⟨Nat.le_trans h.le g.le, fun i hi hs => (g.at_ i (Nat.lt_of_lt_of_le hi h.le) hs).trans (h.at_ i hi hs)⟩
theorem Gr.get {s i : Nat} {μ μ' : Mem} {c : Cell} (g : Gr s μ μ') (h : μ[i]? = some c) (hs : i ≠ s) : μ'[i]? = some c := (g.at_ i (List.getElem?_eq_some_iff.mp h).1 hs).trans h
theorem Gr.snoc {s : Nat} {μ : Mem} {c : Cell} : Gr s μ (μ ++ [c]) := ⟨by simp, fun i hi _ => List.getElem?_append_left hi⟩
theorem Gr.set {s : Nat} {μ : Mem} {c : Cell} : Gr s μ (μ.set s c) := ⟨by simp, fun i _ hs => List.getElem?_set_ne (Ne.symm hs)⟩
/-- a cell of the new part changes -/
theorem Gr.put {s i : Nat} {μ μ' : Mem} {c : Cell} (g : Gr s μ μ') (h : μ.length ≤ i) : Gr s μ (μ'.set i c) := ⟨by simpa using g.le, fun j hj hs => by
  rw [List.getElem?_set_ne (by omega)]; exact g.at_ j hj hs⟩
theorem get_snoc {μ : Mem} {c : Cell} : (μ ++ [c])[μ.length]? = some c := by simp
theorem get_set {μ : Mem} {i : Nat} {c d : Cell} (h : μ[i]? = some d) : (μ.set i c)[i]? = some c := List.getElem?_set_self (List.getElem?_eq_some_iff.mp h).1
theorem get_set_ne {μ : Mem} {i j : Nat} {c d : Cell} (h : μ[j]? = some d) (ne : i ≠ j) : (μ.set i c)[j]? = some d := (List.getElem?_set_ne ne).trans h
theorem get_snoc_lt {μ : Mem} {i : Nat} {c d : Cell} (h : μ[i]? = some d) : (μ ++ [c])[i]? = some d := (List.getElem?_append_left (List.getElem?_eq_some_iff.mp h).1).trans h
theorem get_lt {μ : Mem} {i : Nat} {d : Cell} (h : μ[i]? = some d) : i < μ.length := (List.getElem?_eq_some_iff.mp h).1
end Dg
/-! Dg9: raise of an own exception, texts with places, try with one clause without a name. -/
namespace Dg
open PySem PySem.Spec PyProof.Rows L2 RZ
section
variable {X : Cx} {W : WX} {k : Nat}
/-! ### raise C(e) -/
def sRaise (c : Str) (m : FE) : FS := fun s μ => ofR (m s μ) s fun _ μ1 => .ex c s μ1
theorem cs_raise {C : Addr} {bmB : List Value} {B newId initId : String} {x : Str} {e : Expr} {me : FE} {p pos pos' : Pos} (G : Good X W k) (F : ExcBaseFacts B newId initId bmB) (q : PySem.W.excIn X.K C bmB newId = true) (gC : X.mg x = some (.ref C))
    (kC : PySem.W.keepIn X.K (.ref C) = true) (r : Raises X (.ref C)) (hg : Gl X x) (he : CE X W e me) (hst : starEach [e] X.env = (false, eval e X.env) :: starEach [] X.env := by rfl) (hdb : (x == ("__debug__" : Str)) = false := by decide) :
    CS X W (.Raise (some (.Call (.Name x p) [e] [] pos)) none pos') (sRaise x me) := by
  intro ρ μ s σ H D hs hm h
  refine ⟨_, ps_raise G.calm G.tk (SkE.pmk_own1 F q gC kC r hg pe_w hst hdb), ?_⟩
  exact he ρ μ s σ H _ hs hm (PostS.bind hs h fun u μ1 x1 H1 ρ1 t1 r1 h1 => h1 (.ref C) σ H1 ρ1 (Stp.refl t1.mem) (t1.s hs) gC)
/-! ### f'..{e}..' -/
def fFmt (a : FE) : FE := fun s μ => (a s μ).bind fun u μ1 => match u with
  | .str y => if y.length ≤ lim then .ok (.str y) μ1 else .bad
  | .int i => if i.natAbs.log2 < 1920 ∧ PyData.strOk (toString i : Str) = true then .ok (.str (toString i)) μ1 else .bad
  | _ => .bad
theorem ce_fmt {e : Expr} {me : FE} {pos : Pos} (he : CE X W e me) : CE X W (.FormattedValue e (-1) none pos) (fFmt me) := by
  intro ρ μ s σ H Q hs hm h
  refine ⟨_, pe_fmt pe_w, ?_⟩
  refine he ρ μ s σ H _ hs hm (h.bind fun u μ1 x H1 ρ1 t1 r1 h1 => ?_)
  cases u with
  | str y =>
    cases r1 with
    | str ok =>
      simp only at h1
      split at h1
      · rename_i hl
        exact .inl ⟨y, rfl, lim_le hl, h1.ok (Stp.refl t1.mem) (.str ok)⟩
      · exact h1.elim
  | int i =>
    cases r1
    simp only at h1
    split at h1
    · rename_i hl
      exact .inr ⟨i, rfl, hl.1, h1.ok (Stp.refl t1.mem) (.str hl.2)⟩
    · exact h1.elim
  | _ => exact h1.elim
def fJs : List FE → Str → FE
  | [], acc => fun _ μ => .ok (.str acc) μ
  | p :: ps, acc => fun s μ => (p s μ).bind fun u μ1 => match u with
    | .str y => if (acc ++ y).length ≤ lim then fJs ps (acc ++ y) s μ1 else .bad
    | _ => .bad
inductive CJ (X : Cx) (W : WX) : List Expr → List FE → Prop
  | nil : CJ X W [] []
  | cons {e : Expr} {m : FE} {es : List Expr} {ms : List FE} (h : CE X W e m) (r : CJ X W es ms) : CJ X W (e :: es) (m :: ms)
theorem pj_all : ∀ es : List Expr, PJ X es (es.map (WE X))
  | [] => .nil
  | _ :: es => .cons pe_w (pj_all es)
theorem tjs_of {es : List Expr} {ms : List FE} (h : CJ X W es ms) : ∀ (acc : Str) (ρ : List Addr) (μ : Mem) (s : Slots) (σ : L2.St) (H : Hp) (Q : Str → Hp → Prop), PyData.strOk acc = true → RepS X.K H ρ s σ → RepM X.K H ρ μ →
    Post X W σ relV ρ H (fJs ms acc s μ) (fun v H1 => ∃ y, v = .str y ∧ Q y H1) → tJs (es.map (WE X)) acc σ H Q := by
  induction h with
  | nil =>
    intro acc ρ μ s σ H Q ok hs hm h
    obtain ⟨y, e, q⟩ := h.ok (Stp.refl hm) (.str ok)
    cases e
    exact q
  | @cons e m es ms he r ih =>
    intro acc ρ μ s σ H Q ok hs hm h
    refine he ρ μ s σ H _ hs hm (h.bind fun u μ1 x H1 ρ1 t1 r1 h1 => ?_)
    cases u with
    | str y =>
      cases r1 with
      | str oy =>
        simp only at h1
        split at h1
        · rename_i hl
          exact ⟨y, rfl, lim_le hl, ih (acc ++ y) ρ1 μ1 s σ H1 Q (strOk_append ok oy) (t1.s hs) t1.mem h1⟩
        · exact h1.elim
    | _ => exact h1.elim
theorem fJs_str : ∀ {ms : List FE} {acc : Str} {s : Slots} {μ m : Mem} {u : U}, fJs ms acc s μ = .ok u m → ∃ y, u = .str y
  | [], acc, s, μ, m, u, h => by cases h; exact ⟨acc, rfl⟩
  | p :: ps, acc, s, μ, m, u, h => by
    unfold fJs at h
    cases e : p s μ with
    | ok w m1 =>
      rw [e] at h
      simp only [Res.bind] at h
      split at h
      · split at h
        · exact fJs_str h
        · cases h
      · cases h
    | ex c m1 => rw [e] at h; cases h
    | bad => rw [e] at h; cases h
theorem ce_joined {e1 e2 : Expr} {es : List Expr} {ms : List FE} {pos : Pos} (h : CJ X W (e1 :: e2 :: es) ms) : CE X W (.JoinedStr (e1 :: e2 :: es) pos) (fJs ms Str.empty) := by
  intro ρ μ s σ H Q hs hm q
  refine ⟨_, pe_joined (pj_all _), ?_⟩
  refine tjs_of h Str.empty ρ μ s σ H _ (by decide +kernel) hs hm ?_
  cases z : fJs ms Str.empty s μ with
  | ok u m =>
    rw [z] at q
    obtain ⟨y, rfl⟩ := fJs_str z
    intro v H' ρ' t r
    have r' := r
    cases r' with
    | str _ => exact ⟨y, rfl, q _ H' ρ' t r⟩
  | ex c m => rw [z] at q; exact q
  | bad => rw [z] at q; exact q
/-! ### try .. except C -/
def sTry (tab : List (Str × Bool)) (body suite : FS) : FS := fun s μ => match body s μ with
  | .ex c s1 μ1 => match tab.lookup c with
    | some true => suite s1 μ1
    | some false => .ex c s1 μ1
    | none => .bad
  | o => o
/-! ### own exceptions, by facts of the head -/
def Exn (K : PySem.W.Frag) (mg : Str → Option Value) (x : Str) : Prop := ∃ C : Addr, mg x = some (.ref C) ∧ PySem.W.excIn K C He.veBase "ValueError.__new__" = true ∧ PySem.W.keepIn K (.ref C) = true ∧
  PySem.W.subIn K (.ref C) (.type "BaseException") = some true ∧ PySem.W.typeIn K (.ref C) = some (.type "type")
theorem exn_ok {K : PySem.W.Frag} {h : Heap} {mg : Str → Option Value} (KX : K.In h) (N : h.Ns mainGlobals mg) {x : Str} (c1 : (He.Fa.glo x).ok K = true) (c2 : (He.Fa.exc x).ok K = true) : Exn K mg x :=
  ⟨He.ga K x, He.glo_ok KX N c1, He.exc_ok c2⟩
theorem cs_raiseN {x : Str} {e : Expr} {me : FE} {p pos pos' : Pos} (G : Good X W k) (h : Exn X.K X.mg x) (hg : Gl X x) (he : CE X W e me) (hst : starEach [e] X.env = (false, eval e X.env) :: starEach [] X.env := by rfl)
    (hdb : (x == ("__debug__" : Str)) = false := by decide) : CS X W (.Raise (some (.Call (.Name x p) [e] [] pos)) none pos') (sRaise x me) := by
  obtain ⟨C, h1, h2, h3, h4, h5⟩ := h
  exact cs_raise G PySem.F.excBase_ValueError h2 h1 h3 (raises_own h4 h5) hg he hst hdb
def Exm (K : PySem.W.Frag) (mg : Str → Option Value) (x y : Str) (b : Bool) : Prop := ∃ Cx Cy : Addr, mg x = some (.ref Cx) ∧ mg y = some (.ref Cy) ∧ PySem.W.exmOne K (.ref Cx) (.ref Cy) = some b
theorem lookup_mem {α : Type} {n : Str} {b : α} : ∀ {l : List (Str × α)}, l.lookup n = some b → (n, b) ∈ l
  | [], h => by cases h
  | p :: r, h => by
    rw [List.lookup_cons] at h
    split at h
    · rename_i e
      cases h
      have e2 := beq_iff_eq.mp e
      subst e2
      exact List.mem_cons_self
    · exact List.mem_cons_of_mem _ (lookup_mem h)
end
end Dg
/-! Dg10: {k: v, ..}. -/
namespace Dg
open PySem PySem.Spec PyProof.Rows L2 RZ
def mergeU (kus more : List (Key × U)) : List (Key × U) := more.foldl (fun acc kv => putU acc kv.1 kv.2) kus
theorem RepKV.merge {K : PySem.W.Frag} {H : Hp} {ρ : List Addr} : ∀ {more : List (Key × U)} {mv : List (Key × V)} {kus : List (Key × U)} {kvs : List (Key × V)}, RepKV K H ρ more mv → RepKV K H ρ kus kvs → RepKV K H ρ (mergeU kus more) (mergeK kvs mv)
  | [], mv, kus, kvs, h, g => by
    have := h.unnil
    subst this
    exact g
  | (k, u) :: more, mv, kus, kvs, h, g => by
    obtain ⟨v, mv', e, r, h'⟩ := h.uncons
    subst e
    show RepKV K H ρ (mergeU (putU kus k u) more) (mergeK (putK kvs k v) mv')
    exact RepKV.merge h' (RepKV.put r g)
def fPairs : List (FE × FE) → Slots → Mem → Res (List (Key × U))
  | [], _, μ => .ok [] μ
  | (k, v) :: r, s, μ => (k s μ).bind fun ku μ1 => (v s μ1).bind fun u μ2 => match keyU ku with
    | some key => (fPairs r s μ2).bind fun kus μ3 => .ok ((key, u) :: kus) μ3
    | none => .bad
def relKV : RelT (List (Key × U)) (List (Key × V)) := fun K H ρ a b => RepKV K H ρ a b
def fDisp (ms : List (FE × FE)) : FE := fun s μ => (fPairs ms s (μ ++ [.dct []])).bind fun kus μ1 => match μ1[μ.length]? with
  | some (.dct []) => if kus.length ≤ 15 then .ok (.ref μ.length) (μ1.set μ.length (.dct (mergeU [] kus))) else .bad
  | _ => .bad
theorem Post.from' {α β : Type} {X : Cx} {W : WX} {σ : L2.St} {rel : RelT α β} {ρ ρ1 : List Addr} {H H1 : Hp} {μ1 : Mem} {r : Res α} {Q : β → Hp → Prop} (t : Stp X.K ρ H ρ1 H1 μ1) (h : Post X W σ rel ρ H r Q) : Post X W σ rel ρ1 H1 r Q := by
  cases r with
  | ok a m => exact fun v H' ρ' t' r => h v H' ρ' (t.trans t') r
  | ex c m => exact fun cls H' ρ' t' e => h cls H' ρ' (t.trans t') e
  | bad => exact h
section
variable {X : Cx} {W : WX} {k : Nat}
inductive CP (X : Cx) (W : WX) : List (Option Expr) → List Expr → List (FE × FE) → Prop
  | nil : CP X W [] [] []
  | cons {k v : Expr} {mk mv : FE} {ks : List (Option Expr)} {vs : List Expr} {ms : List (FE × FE)} (hk : CE X W k mk) (hv : CE X W v mv) (r : CP X W ks vs ms) : CP X W (some k :: ks) (v :: vs) ((mk, mv) :: ms)
theorem CP.pairs {pos : Pos} {ks : List (Option Expr)} {vs : List Expr} {ms : List (FE × FE)} (c : CP X W ks vs ms) : ∃ trs : List (TE × TE), PPs X pos ks vs trs ∧ ∀ (ρ : List Addr) (μ : Mem) (s : Slots) (σ : L2.St) (H : Hp) (Q : List (V × V) → Hp → Prop), RepS X.K H ρ s σ → RepM X.K H ρ μ →
    Post X W σ relKV ρ H (fPairs ms s μ) (fun kvs H3 => Q (kvs.map fun kv => (kV kv.1, kv.2)) H3) → tPairs trs σ H Q := by
  induction c with
  | nil => exact ⟨[], pps_nil, fun ρ μ s σ H Q hs hm h => h.ok (v := []) (Stp.refl hm) RepKV.nil⟩
  | @cons k v mk mv ks vs ms hk hv r ih =>
    obtain ⟨trs, p, ih⟩ := ih
    refine ⟨(WE X k, WE X v) :: trs, pps_cons pe_w pe_w p, fun ρ μ s σ H Q hs hm h => ?_⟩
    refine hk ρ μ s σ H _ hs hm (h.bind fun ku μ1 x H1 ρ1 t1 r1 h1 => ?_)
    refine hv ρ1 μ1 s σ H1 _ (t1.s hs) t1.mem (h1.bind fun u μ2 y H2 ρ2 t2 r2 h2 => ?_)
    split at h2
    · rename_i key e
      have ex : x = kV key := keyU_ok (t2.v r1) e
      subst ex
      refine ih ρ2 μ2 s σ H2 _ (t2.s (t1.s hs)) t2.mem (h2.bind (rel1 := relKV) fun kus μ3 kvs H3 ρ3 t3 r3 h3 => ?_)
      exact h3.ok (v := (key, y) :: kvs) (Stp.refl t3.mem) (RepKV.cons (t3.v r2) r3)
    · exact h2.elim
theorem ce_disp {ks : List (Option Expr)} {vs : List Expr} {ms : List (FE × FE)} {pos : Pos} (c : CP X W ks vs ms) (hall : ks.all (·.isSome) = true := by rfl) (hl : ks.length = vs.length := by rfl) (h0 : ks ≠ [] := by exact List.cons_ne_nil _ _)
    (h15 : ks.length ≤ 15 := by decide) : CE X W (.Dict ks vs pos) (fDisp ms) := by
  intro ρ μ s σ H Q hs hm h
  obtain ⟨trs, p, run⟩ := c.pairs (pos := pos)
  refine ⟨_, pe_disp p hall hl h0 h15, fun q nq => ?_⟩
  have t0 := newD hm nq (RepKV.nil (K := X.K) (H := H) (ρ := ρ))
  refine run (ρ ++ [q]) (μ ++ [.dct []]) s σ _ _ (t0.s hs) t0.mem ((Post.from' t0 h).bind (rel1 := relKV) fun kus μ1 kvs H1 ρ1 t1 r1 h1 => ?_)
  split at h1
  · rename_i e
    split at h1
    · rename_i hz
      have er : ρ1[μ.length]? = some q := t1.ext.get (by rw [← hm.len]; simp)
      obtain ⟨c, ec, rc⟩ := t1.mem.at er
      rw [e] at ec
      cases ec
      obtain ⟨kv0, a1, a2, a3⟩ := rc
      have : kv0 = [] := by simpa using a2
      subst this
      refine ⟨a1, kvs, rfl, by rw [r1.length]; exact hz, ?_⟩
      exact h1.ok (putD t1.mem er e (RepKV.merge r1 RepKV.nil)) (.ref er)
    · exact h1.elim
  · exact h1.elim
end
end Dg
/-! Dg11: try .. except C as e: return .., where e is asked by isinstance alone. -/
namespace Dg
open PySem PySem.Spec PyProof.Rows L2 RZ
theorem RepS.hide {K : PySem.W.Frag} {H : Hp} {ρ : List Addr} {s : Slots} {σ : L2.St} (h : RepS K H ρ s σ) (i : Nat) (x : Option V) : RepS K H ρ (s.set i none) (σ.set i x) := by
  refine ⟨by simpa using h.len, fun j u e => ?_⟩
  by_cases hj : i = j
  · subst hj
    rw [List.getElem?_set] at e
    simp at e
  · rw [List.getElem?_set_ne hj] at e
    rw [List.getElem?_set_ne hj]
    exact h.get j u e
section
variable {X : Cx} {W : WX} {k i : Nat} {a : Addr}
/-! ### isinstance(e, C) by the name of the class that was raised -/
def fIsX (tab : List (Str × Bool)) (c : Str) : FE := match tab.lookup c with
  | some b => fC (.bl b)
  | none => fun _ _ => .bad
/-! ### the statement -/
def sTryAs (tab : List (Str × Bool)) (i : Nat) (body : FS) (ms : Str → FE) : FS := fun s μ => match body s μ with
  | .ex c s1 μ1 => match tab.lookup c with
    | some true => if i < s1.length then ofR (ms c (s1.set i none) μ1) (s1.set i none) fun u μ2 => .rt u μ2 else .bad
    | some false => .ex c s1 μ1
    | none => .bad
  | o => o
end
end Dg
/-! Dg12: x in TABLE, TABLE a dict of the module with text keys. -/
namespace Dg
open PySem PySem.Spec PyProof.Rows L2 RZ
section
variable {X : Cx} {W : WX} {k : Nat}
end
end Dg
/-! Dg13: list.index, list.insert, dict.get. -/
namespace Dg
open PySem PySem.Spec PyProof.Rows L2 RZ
section
variable {X : Cx} {W : WX} {k : Nat}
/-! ### list.index of flat values -/
def flU : U → Option V
  | .non => some .non
  | .bl b => some (.bl b)
  | .int i => some (.int i)
  | .str s => some (.str s)
  | _ => none
theorem flU_ok {K : PySem.W.Frag} {H : Hp} {ρ : List Addr} {u : U} {v x : V} (r : RepV K H ρ u v) (e : flU u = some x) : v = x ∧ flatV v = true := by
  cases r <;> simp only [flU, Option.some.injEq, reduceCtorEq] at e
  · subst e; exact ⟨rfl, rfl⟩
  · subst e; exact ⟨rfl, rfl⟩
  · subst e; exact ⟨rfl, rfl⟩
  · subst e; exact ⟨rfl, rfl⟩
def flUs : List U → Option (List V)
  | [] => some []
  | u :: us => match flU u, flUs us with
    | some v, some vs => some (v :: vs)
    | _, _ => none
theorem flUs_ok {K : PySem.W.Frag} {H : Hp} {ρ : List Addr} : ∀ {us : List U} {vs xs : List V}, RepVs K H ρ us vs → flUs us = some xs → vs = xs ∧ vs.all flatV = true
  | [], _, _, r, e => by cases r; cases e; exact ⟨rfl, rfl⟩
  | u :: us, _, xs, r, e => by
    cases r with
    | cons h t =>
      simp only [flUs] at e
      cases e1 : flU u with
      | none => rw [e1] at e; cases e
      | some v =>
        cases e2 : flUs us with
        | none => rw [e1, e2] at e; cases e
        | some vs =>
          rw [e1, e2] at e
          cases e
          obtain ⟨a1, a2⟩ := flU_ok h e1
          obtain ⟨b1, b2⟩ := flUs_ok t e2
          subst a1 b1
          exact ⟨rfl, by simp [a2, b2]⟩
def idxV (y : V) : List V → Option Nat
  | [] => none
  | z :: zs => if eqV z y then some 0 else (idxV y zs).map (· + 1)
theorem idxV_ok {y : V} : ∀ {zs : List V} {j : Nat}, idxV y zs = some j → (∃ z, zs[j]? = some z ∧ eqV z y = true) ∧ ∀ (m : Nat) (z' : V), m < j → zs[m]? = some z' → eqV z' y = false
  | [], j, e => by cases e
  | z :: zs, j, e => by
    simp only [idxV] at e
    by_cases h : eqV z y = true
    · rw [if_pos h] at e
      cases e
      exact ⟨⟨z, rfl, h⟩, fun m z' hm => by omega⟩
    · rw [if_neg h] at e
      cases e2 : idxV y zs with
      | none => rw [e2] at e; cases e
      | some i =>
        rw [e2] at e
        cases e
        obtain ⟨⟨w, a1, a2⟩, b⟩ := idxV_ok e2
        refine ⟨⟨w, by simpa using a1, a2⟩, fun m z' hm hz => ?_⟩
        cases m with
        | zero =>
          simp at hz
          subst hz
          simpa using h
        | succ m => exact b m z' (by have h2 : m + 1 < i + 1 := hm; omega) (by simpa using hz)
def gIndex (u : U) (us : List U) (μ : Mem) : Res U := match lstU μ u, us with
  | some xs, [w] => match flUs xs, flU w with
    | some vs, some y => match idxV y vs with
      | some j => .ok (.int (j : Nat)) μ
      | none => .bad
    | _, _ => .bad
  | _, _ => .bad
theorem gs_index : MtS X W "list.index" gIndex := by
  intro ρ μ σ H u us x vs Q hm ru rus h
  unfold gIndex at h
  split at h
  · rename_i xs w e1
    split at h
    · rename_i ws y e2 e3
      split at h
      · rename_i j e4
        obtain ⟨a, zs, rfl, hs, rr⟩ := lstU_ok hm ru e1
        cases rus with
        | cons r1 r2 =>
          cases r2
          obtain ⟨p1, p2⟩ := flU_ok r1 e3
          obtain ⟨q1, q2⟩ := flUs_ok rr e2
          subst p1 q1
          obtain ⟨⟨z, a1, a2⟩, a3⟩ := idxV_ok e4
          exact ⟨_, mt_index, a, _, _, j, z, rfl, rfl, hs, p2, q2, a1, a2, a3, h.ok (Stp.refl hm) .int⟩
      · exact h.elim
    · exact h.elim
  · exact h.elim
end
end Dg
/-! Dg14: walks over dicts (locked meanwhile), dict.get. -/
namespace Dg
open PySem PySem.Spec PyProof.Rows L2 RZ
def kU : Key → U
  | .inl i => .int i
  | .inr x => .str x
section
variable {X : Cx} {W : WX} {k : Nat}
/-! ### locks -/
theorem TV.lock {H : Hp} {d : Addr} {u v : HO} (h : H d = some u) (hs : Sft u) : TV H (upd H d v) := (TX.put fun o' r => by rw [h] at r; cases r; exact hs).tv
theorem TV.unlock {H : Hp} {d : Addr} {o : Obj} {u v : HO} (h : H d = some (.frz o u)) (h1 : ∀ xs, u ≠ .tup xs) (h2 : ∀ xs, u ≠ .lst xs) : TV H (upd H d v) := ⟨fun a xs r => by
  rcases r with r | ⟨z, r⟩
  · have ne : a ≠ d := fun e => by rw [e, h] at r; cases r
    exact .inl (by rw [upd_ne ne]; exact r)
  · have ne : a ≠ d := fun e => by rw [e, h] at r; cases r; exact h1 _ rfl
    exact .inr ⟨z, by rw [upd_ne ne]; exact r⟩, fun a z u r => by
  have ne : a ≠ d := fun e => by rw [e, h] at r; cases r; exact h2 _ rfl
  rw [upd_ne ne]; exact r⟩
/-- from before a lock to behind it -/
theorem TX.across {H H' : Hp} {d : Addr} {o : Obj} {u : HO} (h0 : H d = some u) (hs : Sft u) (t : TX (upd H d (.frz o u)) H') (h1 : H' d = some (.frz o u)) (v : HO) : TX H (upd H' d v) := ⟨fun a xs r => by
  have ne : a ≠ d := fun e => by
    rcases r with r | ⟨z, r⟩
    · rw [e, h0] at r; cases r; exact hs.1 _ rfl
    · rw [e, h0] at r; cases r; exact hs.2 _ _ rfl
  have r2 : Rd (upd H d (.frz o u)) a (.tup xs) := by
    rcases r with r | ⟨z, r⟩
    · exact .inl (by rw [upd_ne ne]; exact r)
    · exact .inr ⟨z, by rw [upd_ne ne]; exact r⟩
  rcases t.1 a xs r2 with r | ⟨z, r⟩
  · exact .inl (by rw [upd_ne ne]; exact r)
  · exact .inr ⟨z, by rw [upd_ne ne]; exact r⟩, fun a z w r => by
  have ne : a ≠ d := fun e => by rw [e, h0] at r; cases r; exact hs.2 _ _ rfl
  rw [upd_ne ne]
  exact t.2 a z w (by rw [upd_ne ne]; exact r)⟩
theorem TX.into {H H' : Hp} {d : Addr} {o : Obj} {u : HO} (h0 : H d = some u) (hs : Sft u) (t : TX (upd H d (.frz o u)) H') : TX H H' := ⟨fun a xs r => by
  have ne : a ≠ d := fun e => by
    rcases r with r | ⟨z, r⟩
    · rw [e, h0] at r; cases r; exact hs.1 _ rfl
    · rw [e, h0] at r; cases r; exact hs.2 _ _ rfl
  refine t.1 a xs ?_
  rcases r with r | ⟨z, r⟩
  · exact .inl (by rw [upd_ne ne]; exact r)
  · exact .inr ⟨z, by rw [upd_ne ne]; exact r⟩, fun a z w r => by
  have ne : a ≠ d := fun e => by rw [e, h0] at r; cases r; exact hs.2 _ _ rfl
  exact t.2 a z w (by rw [upd_ne ne]; exact r)⟩
def lkC : Cell → Option Cell
  | .dct kus => some (.fdc kus)
  | _ => none
def ulC : Cell → Option Cell
  | .fdc kus => some (.dct kus)
  | _ => none
def ulM (r : Nat) (μ : Mem) : Option Mem := match μ[r]? with
  | some c => match ulC c with
    | some c' => some (μ.set r c')
    | none => none
  | none => none
def ulO (r : Nat) (o : Out) : Out := match o with
  | .nx s μ => match ulM r μ with
    | some μ' => .nx s μ'
    | none => .bad
  | .rt u μ => match ulM r μ with
    | some μ' => .rt u μ'
    | none => .bad
  | .bk s μ => match ulM r μ with
    | some μ' => .bk s μ'
    | none => .bad
  | .ct s μ => match ulM r μ with
    | some μ' => .ct s μ'
    | none => .bad
  | .ex c s μ => .ex c s μ
  | .bad => .bad
/-- the statement, while the dict that e names is locked -/
def sLock (e : FE) (b : FS) : FS := fun s μ => match e s μ with
  | .ok (.ref r) _ => match μ[r]? with
    | some c => match lkC c with
      | some c' => ulO r (b s (μ.set r c'))
      | none => b s μ
    | none => b s μ
  | _ => b s μ
theorem ulM_ok {K : PySem.W.Frag} {H H' : Hp} {ρ ρ' : List Addr} {μ' μ2 : Mem} {r : Nat} {d : Addr} {o : Obj} {u : HO} {kvs0 : List (Key × V)} (hu : u = .dK kvs0) (h0 : H d = some u) (hr : ρ[r]? = some d)
    (t : Stp K ρ (upd H d (.frz o u)) ρ' H' μ') (h1 : H' d = some (.frz o u)) (e : ulM r μ' = some μ2) : Stp K ρ H ρ' (upd H' d u) μ2 ∧ TV H' (upd H' d u) := by
  subst hu
  have tv : TV H' (upd H' d (.dK kvs0)) := TV.unlock h1 (fun _ => by simp) (fun _ => by simp)
  refine ⟨⟨t.ext, TX.across h0 (by simp [Sft]) t.tx h1 _, ?_⟩, tv⟩
  unfold ulM at e
  cases ec : μ'[r]? with
  | none => rw [ec] at e; cases e
  | some c =>
    rw [ec] at e
    cases c with
    | fdc kus =>
      cases e
      obtain ⟨o', kvs, q1, q2, q3⟩ := t.mem.get (t.ext.get hr) ec
      rw [h1] at q1
      cases q1
      exact t.mem.putV tv (t.ext.get hr) ⟨_, upd_same, q2, q3.monoV tv (Ext.refl _)⟩
    | _ => cases e
theorem cs_lock {st : Stmt} {e : FE} {m : FS} (h : CS X W st m) : CS X W st (sLock e m) := by
  intro ρ μ s σ H D hs hm p
  unfold sLock at p
  have plain : PostS X W ρ H (m s μ) D → WS X st D σ H := h ρ μ s σ H D hs hm
  split at p
  · rename_i r μ1 _
    split at p
    · rename_i c ec
      split at p
      · rename_i c' el
        cases c with
        | dct kus =>
          cases el
          have hlt : r < ρ.length := by rw [hm.len]; exact (List.getElem?_eq_some_iff.mp ec).1
          have hr : ρ[r]? = some ρ[r] := List.getElem?_eq_getElem hlt
          obtain ⟨kvs, q1, q2, q3⟩ := hm.get hr ec
          refine ⟨_, ps_lock ps_w, ρ[r], .dK kvs, q1, trivial, fun od => ?_⟩
          have tv : TV H (upd H ρ[r] (.frz od (.dK kvs))) := TV.lock q1 (by simp [Sft])
          have hm' : RepM X.K (upd H ρ[r] (.frz od (.dK kvs))) ρ (μ.set r (.fdc kus)) := hm.putV tv hr ⟨od, kvs, upd_same, q2, q3.monoV tv (Ext.refl _)⟩
          have hs' : RepS X.K (upd H ρ[r] (.frz od (.dK kvs))) ρ s σ := ⟨hs.len, fun i u e => by obtain ⟨v, a1, a2⟩ := hs.get i u e; exact ⟨v, a1, a2.monoV tv (Ext.refl _)⟩⟩
          refine h ρ (μ.set r (.fdc kus)) s σ _ _ hs' hm' ?_
          have frz : ∀ {ρ' H' μ'}, Stp X.K ρ (upd H ρ[r] (.frz od (.dK kvs))) ρ' H' μ' → H' ρ[r] = some (.frz od (.dK kvs)) := fun t => t.tx.2 _ _ _ upd_same
          cases eo : m s (μ.set r (.fdc kus)) with
          | nx s1 m1 =>
            rw [eo] at p
            intro σ' H' ρ' t rs
            refine ⟨frz t, ?_⟩
            simp only [ulO] at p
            split at p
            · rename_i m2 e2
              obtain ⟨t2, tv2⟩ := ulM_ok rfl q1 hr t (frz t) e2
              exact p σ' _ ρ' t2 ⟨rs.len, fun i u e => by obtain ⟨v, a1, a2⟩ := rs.get i u e; exact ⟨v, a1, a2.monoV tv2 (Ext.refl _)⟩⟩
            · exact p.elim
          | rt u m1 =>
            rw [eo] at p
            intro v H' ρ' t rv
            refine ⟨frz t, ?_⟩
            simp only [ulO] at p
            split at p
            · rename_i m2 e2
              obtain ⟨t2, tv2⟩ := ulM_ok rfl q1 hr t (frz t) e2
              exact p v _ ρ' t2 (rv.monoV tv2 (Ext.refl _))
            · exact p.elim
          | bk s1 m1 =>
            rw [eo] at p
            intro σ' H' ρ' t rs
            refine ⟨frz t, ?_⟩
            simp only [ulO] at p
            split at p
            · rename_i m2 e2
              obtain ⟨t2, tv2⟩ := ulM_ok rfl q1 hr t (frz t) e2
              exact p σ' _ ρ' t2 ⟨rs.len, fun i u e => by obtain ⟨v, a1, a2⟩ := rs.get i u e; exact ⟨v, a1, a2.monoV tv2 (Ext.refl _)⟩⟩
            · exact p.elim
          | ct s1 m1 =>
            rw [eo] at p
            intro σ' H' ρ' t rs
            refine ⟨frz t, ?_⟩
            simp only [ulO] at p
            split at p
            · rename_i m2 e2
              obtain ⟨t2, tv2⟩ := ulM_ok rfl q1 hr t (frz t) e2
              exact p σ' _ ρ' t2 ⟨rs.len, fun i u e => by obtain ⟨v, a1, a2⟩ := rs.get i u e; exact ⟨v, a1, a2.monoV tv2 (Ext.refl _)⟩⟩
            · exact p.elim
          | ex c2 s1 m1 =>
            rw [eo] at p
            intro cls σ' H' ρ' t rs em
            exact p cls σ' H' ρ' ⟨t.ext, TX.into q1 (by simp [Sft]) t.tx, t.mem⟩ rs em
          | bad => rw [eo] at p; exact p.elim
        | _ => cases el
      · exact plain p
    · exact plain p
  · exact plain p
/-- an expression, while the dict that e names is locked -/
def ulR (r : Nat) (o : Res U) : Res U := match o with
  | .ok u μ => match ulM r μ with
    | some μ' => .ok u μ'
    | none => .bad
  | .ex c μ => .ex c μ
  | .bad => .bad
def fLock (e : FE) (b : FE) : FE := fun s μ => match e s μ with
  | .ok (.ref r) _ => match μ[r]? with
    | some c => match lkC c with
      | some c' => ulR r (b s (μ.set r c'))
      | none => b s μ
    | none => b s μ
  | _ => b s μ
theorem ce_lock {x : Expr} {e : FE} {m : FE} (h : CE X W x m) : CE X W x (fLock e m) := by
  intro ρ μ s σ H Q hs hm p
  unfold fLock at p
  have plain : Post X W σ relV ρ H (m s μ) Q → WE X x σ H Q := h ρ μ s σ H Q hs hm
  split at p
  · rename_i r μ1 _
    split at p
    · rename_i c ec
      split at p
      · rename_i c' el
        cases c with
        | dct kus =>
          cases el
          have hlt : r < ρ.length := by rw [hm.len]; exact (List.getElem?_eq_some_iff.mp ec).1
          have hr : ρ[r]? = some ρ[r] := List.getElem?_eq_getElem hlt
          obtain ⟨kvs, q1, q2, q3⟩ := hm.get hr ec
          refine ⟨_, pe_lock pe_w, ρ[r], .dK kvs, q1, trivial, fun od => ?_⟩
          have tv : TV H (upd H ρ[r] (.frz od (.dK kvs))) := TV.lock q1 (by simp [Sft])
          have hm' : RepM X.K (upd H ρ[r] (.frz od (.dK kvs))) ρ (μ.set r (.fdc kus)) := hm.putV tv hr ⟨od, kvs, upd_same, q2, q3.monoV tv (Ext.refl _)⟩
          have hs' : RepS X.K (upd H ρ[r] (.frz od (.dK kvs))) ρ s σ := ⟨hs.len, fun i u e => by obtain ⟨v, a1, a2⟩ := hs.get i u e; exact ⟨v, a1, a2.monoV tv (Ext.refl _)⟩⟩
          refine h ρ (μ.set r (.fdc kus)) s σ _ _ hs' hm' ?_
          have frz : ∀ {ρ' H' μ'}, Stp X.K ρ (upd H ρ[r] (.frz od (.dK kvs))) ρ' H' μ' → H' ρ[r] = some (.frz od (.dK kvs)) := fun t => t.tx.2 _ _ _ upd_same
          cases eo : m s (μ.set r (.fdc kus)) with
          | ok u m1 =>
            rw [eo] at p
            intro v H' ρ' t rv
            refine ⟨frz t, ?_⟩
            simp only [ulR] at p
            split at p
            · rename_i m2 e2
              obtain ⟨t2, tv2⟩ := ulM_ok rfl q1 hr t (frz t) e2
              exact p v _ ρ' t2 (RepV.monoV tv2 (Ext.refl _) rv)
            · exact p.elim
          | ex c2 m1 =>
            rw [eo] at p
            intro cls H' ρ' t em
            exact p cls H' ρ' ⟨t.ext, TX.into q1 (by simp [Sft]) t.tx, t.mem⟩ em
          | bad => rw [eo] at p; exact p.elim
        | _ => cases el
      · exact plain p
    · exact plain p
  · exact plain p
/-! ### walks of a locked dict -/
def fdcU (μ : Mem) : U → Option (List (Key × U))
  | .ref r => match μ[r]? with
    | some (.fdc kus) => some kus
    | some (.dct _) => none
    | some (.lst _) => none
    | some (.dtt _) => none
    | some (.fdt _) => none
    | some (.dnt _) => none
    | some (.obj _ _) => none
    | none => none
  | _ => none
theorem fdcU_ok {K : PySem.W.Frag} {H : Hp} {ρ : List Addr} {μ : Mem} (hm : RepM K H ρ μ) {u : U} {v : V} {kus : List (Key × U)} (r : RepV K H ρ u v) (e : fdcU μ u = some kus) : ∃ a o kvs, v = .ref a ∧ H a = some (.frz o (.dK kvs)) ∧ kvs.map (·.1) = kus.map (·.1) ∧ RepVs K H ρ (kus.map (·.2)) (kvs.map (·.2)) := by
  cases r with
  | ref hr =>
    obtain ⟨c, hc, rc⟩ := hm.at hr
    simp only [fdcU, hc] at e
    cases c with
    | fdc us => cases e; obtain ⟨o, kvs, a, b, c⟩ := rc; exact ⟨_, o, kvs, rfl, a, b, c⟩
    | _ => cases e
  | _ => cases e
theorem kv_at {K : PySem.W.Frag} {H : Hp} {ρ : List Addr} {kus : List (Key × U)} {kvs : List (Key × V)} (h : kvs.map (·.1) = kus.map (·.1)) (r : RepVs K H ρ (kus.map (·.2)) (kvs.map (·.2))) {i : Nat} {k : Key} {v : V} (e : kvs[i]? = some (k, v)) : ∃ u, kus[i]? = some (k, u) ∧ RepV K H ρ u v := by
  have hl : kvs.length = kus.length := by simpa using congrArg List.length h
  have hi : i < kus.length := by rw [← hl]; exact (List.getElem?_eq_some_iff.mp e).1
  have e1 : (kus.map (·.1))[i]? = some k := by rw [← h, List.getElem?_map, e]; rfl
  rw [List.getElem?_map, List.getElem?_eq_getElem hi] at e1
  have e2 : (kus.map (·.2))[i]? = some kus[i].2 := by rw [List.getElem?_map, List.getElem?_eq_getElem hi]; rfl
  obtain ⟨v', a1, a2⟩ := r.get e2
  rw [List.getElem?_map, e] at a1
  cases a1
  simp at e1
  exact ⟨kus[i].2, by rw [List.getElem?_eq_getElem hi, ← e1], a2⟩
theorem rep_kU {K : PySem.W.Frag} {H : Hp} {ρ : List Addr} {k : Key} (hk : keyOk k = true) : RepV K H ρ (kU k) (kV k) := by
  cases k with
  | inl i => exact .int
  | inr x => exact .str hk
def itemsU (kus : List (Key × U)) : List U := kus.map fun p => .tup [kU p.1, p.2]
def keysU (kus : List (Key × U)) : List U := kus.map fun p => kU p.1
def ksOk (kus : List (Key × U)) : Bool := kus.all fun p => keyOk p.1
theorem it_items {K : PySem.W.Frag} {H : Hp} {ρ : List Addr} {d : Addr} {o : Obj} {kvs : List (Key × V)} {kus : List (Key × U)} (hd : H d = some (.frz o (.dK kvs))) (hk : kvs.map (·.1) = kus.map (·.1)) (hr : RepVs K H ρ (kus.map (·.2)) (kvs.map (·.2))) (ok : ksOk kus = true) :
    ItOk K ρ H (.seq (itemsU kus)) (Iti d o kvs) := by
  intro i ρ' H' μ' ex tx hm
  simp only [itemAt]
  have hl : kvs.length = kus.length := by simpa using congrArg List.length hk
  have hd' := tx.2 _ _ _ hd
  have hr' := hr.mono tx ex
  by_cases hi : i < kus.length
  · have e : (itemsU kus)[i]? = some (.tup [kU kus[i].1, kus[i].2]) := by simp [itemsU, hi]
    rw [e]
    refine ⟨⟨hd', by omega⟩, ?_⟩
    rintro x H'' ⟨T, k, v, q1, rfl, q2, rfl⟩
    obtain ⟨u, a1, a2⟩ := kv_at hk hr' q1
    rw [List.getElem?_eq_getElem hi] at a1
    have a3 : kus[i] = (k, u) := Option.some.inj a1
    have ek : keyOk k = true := by
      have := List.all_eq_true.mp ok kus[i] (List.getElem_mem hi)
      rw [a3] at this
      exact this
    rw [a3]
    exact ⟨Stp.temp hm q2, newT q2 (.cons (rep_kU ek) (.one a2))⟩
  · have e : (itemsU kus)[i]? = none := by simp [itemsU]; omega
    rw [e]
    exact ⟨hd', by omega⟩
theorem it_keys {K : PySem.W.Frag} {H : Hp} {ρ : List Addr} {d : Addr} {o : Obj} {kvs : List (Key × V)} {kus : List (Key × U)} (hd : H d = some (.frz o (.dK kvs))) (hk : kvs.map (·.1) = kus.map (·.1)) (hr : RepVs K H ρ (kus.map (·.2)) (kvs.map (·.2))) (ok : ksOk kus = true) :
    ItOk K ρ H (.seq (keysU kus)) (Itk d o kvs) := by
  intro i ρ' H' μ' ex tx hm
  simp only [itemAt]
  have hl : kvs.length = kus.length := by simpa using congrArg List.length hk
  have hd' := tx.2 _ _ _ hd
  have hr' := hr.mono tx ex
  by_cases hi : i < kus.length
  · have e : (keysU kus)[i]? = some (kU kus[i].1) := by simp [keysU, hi]
    rw [e]
    refine ⟨⟨hd', by omega⟩, ?_⟩
    rintro x H'' ⟨rfl, k, v, q1, rfl⟩
    obtain ⟨u, a1, a2⟩ := kv_at hk hr' q1
    rw [List.getElem?_eq_getElem hi] at a1
    have a3 : kus[i] = (k, u) := Option.some.inj a1
    have ek : keyOk k = true := by
      have := List.all_eq_true.mp ok kus[i] (List.getElem_mem hi)
      rw [a3] at this
      exact this
    rw [a3]
    exact ⟨Stp.refl hm, rep_kU ek⟩
  · have e : (keysU kus)[i]? = none := by simp [keysU]; omega
    rw [e]
    exact ⟨hd', by omega⟩
def iItems (a : FE) : FI := fun s μ => (a s μ).bind fun u μ1 => match fdcU μ1 u with
  | some kus => if ksOk kus = true then .ok (.seq (itemsU kus)) μ1 else .bad
  | none => .bad
theorem ci_items {e : Expr} {me : FE} {apos cpos tpos : Pos} {elts : List Expr} {kk : Nat} (he : CE X W e me) (hbase : attributeBase e "items" X.env (eval e X.env) = eval e X.env := by rfl) (hline : (apos.endLine == cpos.line) = true := by rfl) :
    CI X W (.Tuple elts kk tpos) (.Call (.Attribute e "items" apos) [] [] cpos) (Dg.iItems me) := by
  intro ρ μ s σ H R hs hm h
  refine ⟨_, pi_items pe_w hbase hline, ?_⟩
  refine he ρ μ s σ H _ hs hm (h.bind fun u μ1 x H1 ρ1 t1 r1 h1 => ?_)
  split at h1
  · rename_i kus ek
    split at h1
    · rename_i ok
      obtain ⟨a, o, kvs, rfl, q1, q2, q3⟩ := fdcU_ok t1.mem r1 ek
      exact ⟨a, o, kvs, rfl, q1, h1.ok (Stp.refl t1.mem) (it_items q1 q2 q3 ok)⟩
    · exact h1.elim
  · exact h1.elim
/-- for k in d -/
def iKeys (a : FE) : FI := fun s μ => (a s μ).bind fun u μ1 => match fdcU μ1 u with
  | some kus => if ksOk kus = true then .ok (.seq (keysU kus)) μ1 else .bad
  | none => .bad
theorem ci_keys {tg e : Expr} {me : FE} (he : CE X W e me) : CI X W tg e (Dg.iKeys me) := by
  intro ρ μ s σ H R hs hm h
  refine ⟨_, pi_keys pe_w, ?_⟩
  refine he ρ μ s σ H _ hs hm (h.bind fun u μ1 x H1 ρ1 t1 r1 h1 => ?_)
  split at h1
  · rename_i kus ek
    split at h1
    · rename_i ok
      obtain ⟨a, o, kvs, rfl, q1, q2, q3⟩ := fdcU_ok t1.mem r1 ek
      exact ⟨a, o, rfl, .inl ⟨kvs, q1, h1.ok (Stp.refl t1.mem) (it_keys q1 q2 q3 ok)⟩⟩
    · exact h1.elim
  · exact h1.elim
/-! ### d.get(k, x) -/
def rdU (μ : Mem) : U → Option (List (Key × U))
  | .ref r => match μ[r]? with
    | some (.fdc kus) => some kus
    | some (.dct kus) => some kus
    | some (.lst _) => none
    | some (.dtt _) => none
    | some (.fdt _) => none
    | some (.dnt _) => none
    | some (.obj _ _) => none
    | none => none
  | _ => none
theorem rdU_ok {K : PySem.W.Frag} {H : Hp} {ρ : List Addr} {μ : Mem} (hm : RepM K H ρ μ) {u : U} {v : V} {kus : List (Key × U)} (r : RepV K H ρ u v) (e : rdU μ u = some kus) : ∃ a kvs, v = .ref a ∧ Rd H a (.dK kvs) ∧ RepKV K H ρ kus kvs := by
  cases r with
  | ref hr =>
    obtain ⟨c, hc, rc⟩ := hm.at hr
    simp only [rdU, hc] at e
    cases c with
    | fdc us => cases e; obtain ⟨o, kvs, a, b, c⟩ := rc; exact ⟨_, kvs, rfl, .inr ⟨o, a⟩, b, c⟩
    | dct us => cases e; obtain ⟨kvs, a, b, c⟩ := rc; exact ⟨_, kvs, rfl, .inl a, b, c⟩
    | _ => cases e
  | _ => cases e
def fGet (d a b : FE) : FE := fun s μ => (d s μ).bind fun x μ1 => match rdU μ1 x with
  | none => .bad
  | some _ => (a s μ1).bind fun y μ2 => (b s μ2).bind fun z μ3 => match rdU μ3 x, keyU y with
    | some kus, some k => .ok ((valU kus k).getD z) μ3
    | _, _ => .bad
theorem ce_get {d e f : Expr} {md me mf : FE} {apos cpos : Pos} (G : Good X W (k + 40)) (hd : CE X W d md) (he : CE X W e me) (hf : CE X W f mf) (m : M2 X d "get" apos e f cpos) :
    CE X W (.Call (.Attribute d "get" apos) [e, f] [] cpos) (fGet md me mf) := by
  intro ρ μ s σ H Q hs hm h
  refine ⟨_, pe_dget2 G.hu pe_w pe_w pe_w m, ?_⟩
  refine hd ρ μ s σ H _ hs hm (h.bind fun x μ1 xv H1 ρ1 t1 r1 h1 => ?_)
  cases ex : rdU μ1 x with
  | none => rw [ex] at h1; exact h1.elim
  | some kus0 =>
    rw [ex] at h1
    obtain ⟨a, kvs, rfl, q1, _⟩ := rdU_ok t1.mem r1 ex
    refine ⟨a, rfl, ?_, ?_⟩
    · exact .inl ⟨kvs, q1⟩
    · refine he ρ1 μ1 s σ H1 _ (t1.s hs) t1.mem (h1.bind fun y μ2 yv H2 ρ2 t2 r2 h2 => ?_)
      refine hf ρ2 μ2 s σ H2 _ (t2.s (t1.s hs)) t2.mem (h2.bind fun z μ3 zv H3 ρ3 t3 r3 h3 => ?_)
      split at h3
      · rename_i kus k' e1 e2
        obtain ⟨a', kvs', ea, q2, rk⟩ := rdU_ok t3.mem (t3.v (t2.v r1)) e1
        cases ea
        refine ⟨valV kvs' k', .inl ⟨kvs', k', q2, keyU_ok (t3.v r2) e2, rfl⟩, ?_⟩
        have hv := rk.val (k := k')
        cases ev : valU kus k' with
        | none =>
          rw [ev] at h3
          rw [hv.2 ev]
          exact h3.ok (Stp.refl t3.mem) r3
        | some u =>
          rw [ev] at h3
          obtain ⟨v, b1, b2⟩ := hv.1 u ev
          rw [b1]
          exact h3.ok (Stp.refl t3.mem) b2
      · exact h3.elim
end
end Dg
/-! Dg15: try .. except C as e: any suite that asks e by isinstance alone. -/
namespace Dg
open PySem PySem.Spec PyProof.Rows L2 RZ
section
variable {X : Cx} {W : WX} {k i : Nat} {a : Addr}
/-- names of classes as arguments of a display -/
def names (ys : List Str) (ps : List Pos) : List Expr := (ys.zip ps).map fun p => Expr.Name p.1 p.2
/-! ### tests where slot i holds a -/
def CTat (X : Cx) (W : WX) (i : Nat) (a : Addr) (e : Expr) (m : FT) : Prop := ∀ ρ μ s σ H Q, σ[i]? = some (some (.ref a)) → RepS X.K H ρ s σ → RepM X.K H ρ μ → Post X W σ relB ρ H (m s μ) Q → WT X e σ H Q
def CWat (X : Cx) (W : WX) (i : Nat) (a : Addr) (e : Expr) (m : FT) : Prop := ∀ ρ μ s σ H Q, σ[i]? = some (some (.ref a)) → RepS X.K H ρ s σ → RepM X.K H ρ μ → Post X W σ relB ρ H (m s μ) Q → WW X e σ H Q
theorem CWat.ct {e : Expr} {m : FT} (h : CWat X W i a e m) : CTat X W i a e m := fun ρ μ s σ H Q hi hs hm p => by
  obtain ⟨t, h1, h2⟩ := h ρ μ s σ H Q hi hs hm p
  exact ⟨t, h1.pt, h2⟩
/-! ### statements where slot i holds a, and goes on to hold it -/
def PostSat (X : Cx) (W : WX) (i : Nat) (a : Addr) (ρ : List Addr) (H : Hp) (o : Out) (D : Ends) : Prop := match o with
  | .nx s' μ' => ∀ σ' H' ρ', Stp X.K ρ H ρ' H' μ' → RepS X.K H' ρ' s' σ' → σ'[i]? = some (some (.ref a)) → D.nx σ' H'
  | o => PostS X W ρ H o D
theorem PostSat.from {ρ ρ1 : List Addr} {H H1 : Hp} {μ1 : Mem} {o : Out} {D : Ends} (t : Stp X.K ρ H ρ1 H1 μ1) (h : PostSat X W i a ρ H o D) : PostSat X W i a ρ1 H1 o D := by
  cases o with
  | nx s m => exact fun σ' H' ρ' t' r e => h σ' H' ρ' (t.trans t') r e
  | rt u m => exact PostS.from (W := W) (D := D) t (o := .rt u m) h
  | bk s m => exact PostS.from (W := W) (D := D) t (o := .bk s m) h
  | ct s m => exact PostS.from (W := W) (D := D) t (o := .ct s m) h
  | ex c s m => exact PostS.from (W := W) (D := D) t (o := .ex c s m) h
  | bad => exact h
theorem PostSat.bind {α β : Type} {σ : L2.St} {rel : RelT α β} {ρ : List Addr} {H : Hp} {r : Res α} {s : Slots} {k : α → Mem → Out} {D : Ends} {Q1 : β → Hp → Prop} (hs : RepS X.K H ρ s σ)
    (h : PostSat X W i a ρ H (ofR r s k) D) (hk : ∀ b μ1 x H1 ρ1, Stp X.K ρ H ρ1 H1 μ1 → rel X.K H1 ρ1 b x → PostSat X W i a ρ1 H1 (k b μ1) D → Q1 x H1) : Post X W σ rel ρ H r Q1 := by
  cases r with
  | ok b m =>
    intro v H' ρ' t q
    exact hk b m v H' ρ' t q (PostSat.from t h)
  | ex c m =>
    have h' : PostS X W ρ H (.ex c s m) D := h
    exact fun cls H' ρ' t e => h' cls σ H' ρ' t (t.s hs) e
  | bad => exact h
def CSsat (X : Cx) (W : WX) (i : Nat) (a : Addr) (st : List Stmt) (m : FS) : Prop := ∀ ρ μ s σ H D, σ[i]? = some (some (.ref a)) → RepS X.K H ρ s σ → RepM X.K H ρ μ → PostSat X W i a ρ H (m s μ) D → WSs X st D σ H
/-! ### the statement -/
def hideO (i : Nat) (o : Out) : Out := match o with
  | .nx s μ => .nx (s.set i none) μ
  | .bk s μ => .bk (s.set i none) μ
  | .ct s μ => .ct (s.set i none) μ
  | o => o
theorem cs_tryG_end {a0 : Addr} {oe : Obj} {pn2 : List (Addr × Obj)} {b₀ : Stmt} {suite : List Stmt} {m : FS} {ρ ρ' : List Addr} {H H' : Hp} {s1 : Slots} {m1 : Mem} {σ' : L2.St} {D : Ends} (hce : CSsat (X.suite a0 ((a0, oe) :: pn2)) W i a0 (b₀ :: suite) m) (hlt : i < s1.length) (r : RepS X.K H' ρ' s1 σ') (t : Stp X.K ρ H ρ' H' m1)
    (h : PostS X W ρ H (hideO i (m (s1.set i none) m1)) D) : WSs (X.suite a0 ((a0, oe) :: pn2)) (b₀ :: suite) { nx := fun σ' H' => D.nx (σ'.set i none) H', rt := D.rt, bk := fun σ' H' => D.bk (σ'.set i none) H', ct := fun σ' H' => D.ct (σ'.set i none) H' } (σ'.set i (some (.ref a0))) H' := by
  have r2 := r.hide i (some (.ref a0))
  have hl : i < σ'.length := by rw [← r.len]; exact hlt
  have hz2 : (σ'.set i (some (V.ref a0)))[i]? = some (some (.ref a0)) := by rw [List.getElem?_set_self hl]
  have h' := PostS.from t h
  refine hce ρ' m1 _ _ H' _ hz2 r2 t.mem ?_
  cases em : m (s1.set i none) m1 with
  | nx s2 m2 =>
    rw [em] at h'
    intro σ2 H2 ρ2 t2 rs2 _
    exact h' (σ2.set i none) H2 ρ2 t2 (rs2.hide i none)
  | rt u m2 => rw [em] at h'; exact h'
  | bk s2 m2 =>
    rw [em] at h'
    intro σ2 H2 ρ2 t2 rs2
    exact h' (σ2.set i none) H2 ρ2 t2 (rs2.hide i none)
  | ct s2 m2 =>
    rw [em] at h'
    intro σ2 H2 ρ2 t2 rs2
    exact h' (σ2.set i none) H2 ρ2 t2 (rs2.hide i none)
  | ex c s2 m2 => rw [em] at h'; exact h'
  | bad => rw [em] at h'; exact h'
end
end Dg
/-! Lz: list(zip(a, b)) of two tuples. -/
namespace Lz
open PySem PySem.Spec PyProof.Rows L2 RZ PySem.W
open PySem.Sem (wp)
/-- the zip whose last pair T is still held by somebody -/
abbrev Zo (h : Heap) (z TI TO T : Addr) (f : Bool) : Prop :=
  h.get? z = some { cls := .type "zip", dict := none, data := .fields #[rawInt T, .bool f, .bool false, .ref TI, .ref TO], slots := #[] }
section
variable {prog : Program} {w : World} {A : Around} {E : Value → Shared → Prop} {s : Shared}
variable {z TI TO i1 i2 l1 l2 T : Addr} {f : Bool} {k : Nat} {xs ys : Array Value} {oT : Obj}
/-- the state of the zip before its item k: fresh, or the pair T is held -/
def Zs (h : Heap) (z TI TO i1 i2 l1 l2 S : Addr) (k : Nat) : Prop :=
  (IsZip h z TI TO .none ∨ ∃ T f oT, Zo h z TI TO T f ∧ h.get? T = some oT ∧ T ≠ z ∧ T ≠ TO ∧ T ≠ i1 ∧ T ≠ i2 ∧ T ≠ S) ∧ IsPair h TI (.ref i1) (.ref i2) ∧ (∃ a b, IsPair h TO a b) ∧ h.IsTupleIter i1 l1 k ∧ h.IsTupleIter i2 l2 k
theorem Zs.keep {h g : Heap} {S : Addr} (D : ZipApart z TI TO i1 i2 l1 l2) (x : Zs h z TI TO i1 i2 l1 l2 S k) (hz : z ≠ S) (hI : TI ≠ S) (hO : TO ≠ S) (h1 : i1 ≠ S) (h2 : i2 ≠ S)
    (up : ∀ c o, c ≠ S → h.get? c = some o → g.get? c = some o) : Zs g z TI TO i1 i2 l1 l2 S k := by
  obtain ⟨a, b, ⟨p, q, c⟩, d, e⟩ := x
  refine ⟨?_, up _ _ hI b, ⟨p, q, up _ _ hO c⟩, d.at fun o q => up _ o h1 q, e.at fun o q => up _ o h2 q⟩
  rcases a with a | ⟨T, f, o, a, t, n1, n2, n3, n4, n5⟩
  · exact .inl (up _ _ hz a)
  · exact .inr ⟨T, f, o, up _ _ hz a, up _ _ n5 t, n1, n2, n3, n4, n5⟩
end
/-- the addresses as hold the pairs of xs and ys, in order, above B -/
def Ps (xs ys : Array Value) (B : Nat) (h : Heap) (as : List Addr) : Prop :=
  as.Pairwise (· < ·) ∧ (∀ a ∈ as, @LE.le Nat _ B a) ∧ ∀ (j : Nat) (a : Addr), as[j]? = some a → ∃ x y, xs[j]? = some x ∧ ys[j]? = some y ∧ IsPair h a x y
theorem Ps.lt {xs ys : Array Value} {B : Nat} {h : Heap} {as : List Addr} (p : Ps xs ys B h as) {a : Addr} (m : a ∈ as) : a < h.objs.size := by
  obtain ⟨j, e⟩ := List.mem_iff_getElem?.mp m
  obtain ⟨_, _, _, _, q⟩ := p.2.2 j a e
  exact Heap.lt_size q
section
variable {prog : Program} {w : World} {A : Around} {E : Value → Shared → Prop} {s : Shared}
variable {z TI TO i1 i2 l1 l2 S : Addr} {xs ys : Array Value} {R : Result → Shared → Prop}
/-- where the zip and its parts stand: below the list -/
structure Low (z TI TO i1 i2 l1 l2 S : Addr) : Prop where
  z : @LT.lt Nat _ z S
  TI : @LT.lt Nat _ TI S
  TO : @LT.lt Nat _ TO S
  i1 : @LT.lt Nat _ i1 S
  i2 : @LT.lt Nat _ i2 S
  l1 : @LT.lt Nat _ l1 S
  l2 : @LT.lt Nat _ l2 S
def Kp (z TO i1 i2 S : Addr) (h g : Heap) : Prop := ∀ c o, c ≠ S → c ≠ z → c ≠ TO → c ≠ i1 → c ≠ i2 → h.get? c = some o → g.get? c = some o
end
section
variable {prog : Program} {w : World} {A : Around} {E : Value → Shared → Prop} {s : Shared}
variable {z TI TO i1 i2 l1 l2 S : Addr} {xs ys : Array Value} {R : Result → Shared → Prop}
end
end Lz
namespace Dg
open PySem PySem.Spec PyProof.Rows L2 RZ PySem.W
section
variable {X : Cx} {W : WX} {k : Nat}
/-- the mirror: a new list of pairs -/
def fLz (ma : FA) : FE := fun s μ => (ma s μ).bind fun us μ1 => match us with
  | [.tup xs, .tup ys] => .ok (.ref μ1.length) (μ1 ++ [.lst (List.zipWith (fun x y => .tup [x, y]) xs ys)])
  | _ => .bad
end
end Dg
/-! Dk: dicts whose keys are tuples of ints: comprehension, in, d[t] = v, d[t]. -/
namespace Dg
open PySem PySem.Spec PyProof.Rows L2
abbrev Ti := List (List Int × Addr × V)
def valI (xs : Ti) (k : List Int) : Option V := (xs.find? fun x => decide (x.1 = k)).map (·.2.2)
def putI (xs : Ti) (k : List Int) (b : Addr) (v : V) : Ti :=
  if (xs.any fun x => decide (x.1 = k)) = true then xs.map (fun x => if x.1 = k then (x.1, x.2.1, v) else x) else xs ++ [(k, b, v)]
abbrev PR : Ti → List (List Int × Addr × Value) → Prop := Paired fun p q => p.1 = q.1 ∧ p.2.1 = q.2.1 ∧ RelV p.2.2 q.2.2
theorem PR.val {xs : Ti} {ys : List (List Int × Addr × Value)} (r : PR xs ys) (k : List Int) : RelO (valI xs k) ((atKey ys k).map (·.2)) := by
  induction r with
  | nil => exact True.intro
  | @cons p q ps qs h t ih =>
    obtain ⟨h1, _, h2⟩ := h
    by_cases e : p.1 = k
    · have e' : q.1 = k := h1.symm.trans e
      have c1 : valI (p :: ps) k = some p.2.2 := by simp [valI, e]
      have c2 : atKey (q :: qs) k = some q.2 := by simp [atKey, e']
      rw [c1, c2]; exact h2
    · have e' : ¬ q.1 = k := fun z => e (h1.trans z)
      have c1 : valI (p :: ps) k = valI ps k := by simp [valI, e]
      have c2 : atKey (q :: qs) k = atKey qs k := by simp [atKey, e']
      rw [c1, c2]; exact ih
theorem PR.any {xs : Ti} {ys : List (List Int × Addr × Value)} (r : PR xs ys) (k : List Int) : (xs.any fun x => decide (x.1 = k)) = (atKey ys k).isSome := by
  induction r with
  | nil => rfl
  | @cons p q ps qs h t ih =>
    by_cases e : p.1 = k
    · have e' : q.1 = k := h.1.symm.trans e
      simp [atKey, e, e']
    · have e' : ¬ q.1 = k := fun z => e (h.1.trans z)
      have c2 : atKey (q :: qs) k = atKey qs k := by simp [atKey, e']
      rw [c2, ← ih]; simp [e]
theorem PR.put {xs : Ti} {ys : List (List Int × Addr × Value)} (r : PR xs ys) (k : List Int) (b : Addr) {v : V} {u : Value} (rv : RelV v u) : PR (putI xs k b v) (storedH ys k b u) := by
  unfold putI storedH
  rw [r.any k]
  by_cases q : (atKey ys k).isSome = true
  · rw [if_pos q, if_pos q]
    clear q
    induction r with
    | nil => exact .nil
    | @cons p q ps qs h t ih =>
      rw [List.map_cons, List.map_cons]
      refine .cons ?_ ih
      unfold putAt
      by_cases e : p.1 = k
      · rw [if_pos e, if_pos (h.1.symm.trans e)]; exact ⟨h.1, h.2.1, rv⟩
      · rw [if_neg e, if_neg (fun z => e (h.1.trans z))]; exact h
  · rw [if_neg q, if_neg q]; exact Paired.snoc r ⟨rfl, rfl, rv⟩
theorem PR.len {xs : Ti} {ys : List (List Int × Addr × Value)} (r : PR xs ys) : xs.length = ys.length := Paired.length r
theorem PR.keys {xs : Ti} {ys : List (List Int × Addr × Value)} (r : PR xs ys) : xs.map (·.1) = ys.map (·.1) := by
  induction r with
  | nil => rfl
  | cons h t ih => rw [List.map_cons, List.map_cons, h.1, ih]
section
variable {X : Cx} {pins : List (Addr × Obj)} {σ : L2.St} {H : Hp} {s : Shared} {a b : Addr} {A : Around} {E : Value → Shared → Prop} {xs : Ti} {ks : List Int}
end
/-! ### {k: v for ..}, the keys tuples of ints -/
section
variable {X : Cx}
section
variable {kx vx tg iter : Expr} {ifs : List Expr} {scope : Scope} {own : List Nat} {pos : Pos} {g : TG} {tt : TT} {tk tv : TE} {σ : L2.St} {D it L : Addr} {J : It} {fp : List Addr} {tn : Nat → Heap → Prop} {W : Nat → Nat → Hp → Prop} {Q : VK}
end
theorem sw_trueD {kx vx : Expr} {gs : List Comprehension} {scope : Scope} {pos py : Pos} {y : Str} {l : Nat} {env : Env} (hk : env.scope.kind = .function) (hy : env.scope.names.lookup y = some .local) (hl : (py.line == pos.line) = true)
    (ha : (scope.names.any fun (n, k) => n == y && (k == .local || k == .cell)) = false) : swapsWith (.DictComp kx vx gs scope pos) (some (.Name y py)) l env = pure true := by
  have e1 : env.kindOf y = some .local := hy
  have e2 : env.blockKind = .function := by unfold Env.blockKind; rw [hk]; rfl
  unfold swapsWith
  simp only [e1, e2, ha, Expr.pos, hl]
  rfl
end
end Dg
/-! Dm: dicts whose keys are tuples of ints: the mirror. -/
namespace Dg
open PySem PySem.Spec PyProof.Rows L2
abbrev KI := List (List Int × U)
def valUI (kus : KI) (k : List Int) : Option U := (kus.find? fun x => decide (x.1 = k)).map (·.2)
def putUI (kus : KI) (k : List Int) (u : U) : KI :=
  if (kus.any fun x => decide (x.1 = k)) = true then kus.map (fun x => if x.1 = k then (x.1, u) else x) else kus ++ [(k, u)]
inductive RepTi (K : PySem.W.Frag) (H : Hp) (ρ : List Addr) : KI → Ti → Prop
  | nil : RepTi K H ρ [] []
  | cons {k : List Int} {u : U} {b : Addr} {v : V} {kus : KI} {xs : Ti} : SqT K H b (k.map V.int) → RepV K H ρ u v → RepTi K H ρ kus xs → RepTi K H ρ ((k, u) :: kus) ((k, b, v) :: xs)
section
variable {K : PySem.W.Frag} {H : Hp} {ρ : List Addr}
theorem RepTi.of : ∀ {kus : KI} {xs : Ti}, (∀ p ∈ xs, SqT K H p.2.1 (p.1.map V.int)) → xs.map (·.1) = kus.map (·.1) → RepVs K H ρ (kus.map (·.2)) (xs.map (·.2.2)) → RepTi K H ρ kus xs
  | [], [], _, _, _ => .nil
  | [], _ :: _, _, e, _ => by simp at e
  | _ :: _, [], _, e, _ => by simp at e
  | (k, u) :: kus, (k', b, v) :: xs, h, e, r => by
    simp only [List.map_cons, List.cons.injEq] at e
    obtain ⟨rfl, e⟩ := e
    rw [List.map_cons, List.map_cons] at r
    cases r with
    | cons r1 r2 => exact .cons (h _ (List.mem_cons_self ..)) r1 (RepTi.of (fun p hp => h p (List.mem_cons_of_mem _ hp)) e r2)
theorem RepTi.to {kus : KI} {xs : Ti} (r : RepTi K H ρ kus xs) : (∀ p ∈ xs, SqT K H p.2.1 (p.1.map V.int)) ∧ xs.map (·.1) = kus.map (·.1) ∧ RepVs K H ρ (kus.map (·.2)) (xs.map (·.2.2)) := by
  induction r with
  | nil => exact ⟨(fun _ h => nomatch h), rfl, .nil⟩
  | cons h r t ih =>
    refine ⟨fun p hp => ?_, by simp only [List.map_cons, ih.2.1], by rw [List.map_cons, List.map_cons]; exact .cons r ih.2.2⟩
    rcases List.mem_cons.mp hp with rfl | hp
    · exact h
    · exact ih.1 p hp
theorem RepTi.mono {H' : Hp} {ρ' : List Addr} {kus : KI} {xs : Ti} (t : TX H H') (e : Ext ρ ρ') (r : RepTi K H ρ kus xs) : RepTi K H' ρ' kus xs := by
  induction r with
  | nil => exact .nil
  | cons h r _ ih => exact .cons (t.seq h) (r.mono t e) ih
theorem RepTi.len {kus : KI} {xs : Ti} (r : RepTi K H ρ kus xs) : xs.length = kus.length := by
  induction r with
  | nil => rfl
  | cons h r _ ih => simp [ih]
theorem RepTi.val {kus : KI} {xs : Ti} (r : RepTi K H ρ kus xs) (k : List Int) : (valUI kus k = none → valI xs k = none) ∧ ∀ u, valUI kus k = some u → ∃ v, valI xs k = some v ∧ RepV K H ρ u v := by
  induction r with
  | nil => exact ⟨fun _ => rfl, fun u e => by simp [valUI] at e⟩
  | @cons k' u b v kus xs h r t ih =>
    by_cases e : k' = k
    · refine ⟨fun q => by simp [valUI, e] at q, fun w q => ⟨v, by simp [valI, e], ?_⟩⟩
      simp [valUI, e] at q
      exact q ▸ r
    · have e1 : valUI ((k', u) :: kus) k = valUI kus k := by simp [valUI, e]
      have e2 : valI ((k', b, v) :: xs) k = valI xs k := by simp [valI, e]
      rw [e1, e2]; exact ih
theorem RepTi.any {kus : KI} {xs : Ti} (r : RepTi K H ρ kus xs) (k : List Int) : (xs.any fun x => decide (x.1 = k)) = (kus.any fun x => decide (x.1 = k)) := by
  induction r with
  | nil => rfl
  | cons h r t ih => simp [ih]
theorem RepTi.swap {k : List Int} {u : U} {v : V} (ru : RepV K H ρ u v) {kus : KI} {xs : Ti} (r : RepTi K H ρ kus xs) :
    RepTi K H ρ (kus.map fun x => if x.1 = k then (x.1, u) else x) (xs.map fun x => if x.1 = k then (x.1, x.2.1, v) else x) := by
  induction r with
  | nil => exact .nil
  | @cons k' u' b' v' kus xs h r t ih =>
    rw [List.map_cons, List.map_cons]
    by_cases e : k' = k
    · subst e
      simp only [if_true]
      exact .cons h ru ih
    · simp only [e, if_false]
      exact .cons h r ih
theorem RepTi.snoc {k : List Int} {b : Addr} {u : U} {v : V} (hb : SqT K H b (k.map V.int)) (ru : RepV K H ρ u v) {kus : KI} {xs : Ti} (r : RepTi K H ρ kus xs) : RepTi K H ρ (kus ++ [(k, u)]) (xs ++ [(k, b, v)]) := by
  induction r with
  | nil => exact .cons hb ru .nil
  | cons h r t ih => exact .cons h r ih
theorem RepTi.put {kus : KI} {xs : Ti} (r : RepTi K H ρ kus xs) {k : List Int} {b : Addr} {u : U} {v : V} (hb : SqT K H b (k.map V.int)) (ru : RepV K H ρ u v) : RepTi K H ρ (putUI kus k u) (putI xs k b v) := by
  unfold putUI putI
  rw [r.any k]
  split
  · exact r.swap ru
  · exact r.snoc hb ru
end
section
variable {X : Cx} {W : WX} {k : Nat}
theorem RepTi.isSome {K : PySem.W.Frag} {H : Hp} {ρ : List Addr} {kus : KI} {xs : Ti} (r : RepTi K H ρ kus xs) (k : List Int) : (valI xs k).isSome = (valUI kus k).isSome := by
  cases e : valUI kus k with
  | none => rw [(r.val k).1 e]; rfl
  | some u => obtain ⟨v, q, _⟩ := (r.val k).2 u e; rw [q]; rfl
theorem Post.into {α β : Type} {σ : L2.St} {rel : RelT α β} {ρ ρ1 : List Addr} {H H1 : Hp} {μ1 : Mem} {r : Res α} {Q : β → Hp → Prop} (t : Stp X.K ρ H ρ1 H1 μ1) (h : Post X W σ rel ρ H r Q) : Post X W σ rel ρ1 H1 r Q := by
  cases r with
  | ok c m2 => exact fun v2 H3 ρ3 t3 q3 => h v2 H3 ρ3 (t.trans t3) q3
  | ex c m2 => exact fun cls H3 ρ3 t3 e => h cls H3 ρ3 (t.trans t3) e
  | bad => exact h
end
end Dg
/-! Dn: pairs of ints: >=, sorted. -/
namespace Dg
open PySem PySem.Spec PyProof.Rows L2
def prU (p : Int × Int) : U := .tup [.int p.1, .int p.2]
/-- p before q -/
def ltPr (p q : Int × Int) : Bool := SrtO.lexB p q
section
variable {X : Cx} {W : WX} {k : Nat}
def rGeP (K : PySem.W.Frag) : R2 := fun x y H Q => ∃ (a b : Addr) (p q : Int × Int), x = .ref a ∧ y = .ref b ∧ SqT K H a [.int p.1, .int p.2] ∧ SqT K H b [.int q.1, .int q.2] ∧ Q (.bl (!ltPr p q)) H
theorem holds_pr {pins : List (Addr × Obj)} {σ : L2.St} {H : Hp} {s : Shared} {a : Addr} {p : Int × Int} (I : Inv X pins σ H s) (h : SqT X.K H a [.int p.1, .int p.2]) : PySem.W.Holds s.heap (.ref a) p := by
  obtain ⟨as, r⟩ := Dp.reads I (.tuple [.int p.1, .int p.2]) (.ref a) (.ref a) (.tup h (.cons (.int _) (.cons (.int _) .nil))) rfl
  exact ⟨as, r⟩
theorem op_geP (hu : X.A.units + 800 < cLine) : OpR X (compareOp .GtE) (rGeP X.K) := by
  intro pins s σ H x y v u Q I rx ry h
  obtain ⟨a, b, p, q, rfl, rfl, ha, hb, z⟩ := h
  obtain rfl : v = Value.ref a := rx
  obtain rfl : u = Value.ref b := ry
  refine PySem.W.ge_datum (holds_pr I ha) (holds_pr I hb) (Nat.lt_of_le_of_lt (Nat.add_le_add_left (by decide) _) hu) ⟨.bl (!ltPr p q), H, I, rfl, z⟩
def uGeX (u w : U) (μ : Mem) : Res U := match u, w with
  | .tup [.int a, .int b], .tup [.int c, .int d] => .ok (.bl (!ltPr (a, b) (c, d))) μ
  | u, w => uGe u w μ
theorem os_geX (G : Good X W (k + 40)) : OpS X W (compareOp .GtE) uGeX := by
  intro ρ μ σ H u w x y Q hm ru rw' h
  unfold uGeX at h
  split at h
  · rename_i a b c d
    cases ru with
    | tup h1 r1 =>
      cases rw' with
      | tup h2 r2 =>
        have e1 := RepVs.ints (is := [a, b]) r1
        have e2 := RepVs.ints (is := [c, d]) r2
        subst e1 e2
        exact ⟨_, op_geP G.un, _, _, (a, b), (c, d), rfl, rfl, h1, h2, h.ok (Stp.refl hm) .bl⟩
  · exact os_ge ρ μ σ H u w x y Q hm ru rw' h
/-- the pairs ps stand as tuples -/
abbrev PrA (K : PySem.W.Frag) (H : Hp) : List (Int × Int) → List V → Prop := Paired fun p x => ∃ t, x = V.ref t ∧ SqT K H t [.int p.1, .int p.2]
open Classical in
theorem PrA.mk {K : PySem.W.Frag} {H : Hp} (f : V → Int × Int) : ∀ {ys : List V}, (∀ y ∈ ys, ∃ t, y = V.ref t ∧ SqT K H t [.int (f y).1, .int (f y).2]) → PrA K H (ys.map f) ys
  | [], _ => .nil
  | y :: ys, all => .cons (all y (List.mem_cons_self ..)) (PrA.mk f fun z hz => all z (List.mem_cons_of_mem _ hz))
theorem PrA.of {K : PySem.W.Frag} {H : Hp} {ρ : List Addr} : ∀ {ps : List (Int × Int)} {xs : List V}, RepVs K H ρ (ps.map prU) xs → PrA K H ps xs
  | [], _, r => by cases r; exact .nil
  | p :: ps, _, r => by
    rw [List.map_cons] at r
    cases r with
    | cons r rr =>
      cases r with
      | tup h r2 =>
        have e := RepVs.ints (is := [p.1, p.2]) r2
        subst e
        exact .cons ⟨_, rfl, h⟩ (PrA.of rr)
theorem PrA.to {K : PySem.W.Frag} {H : Hp} {ρ : List Addr} {ps : List (Int × Int)} {xs : List V} (r : PrA K H ps xs) : RepVs K H ρ (ps.map prU) xs := by
  induction r with
  | nil => exact .nil
  | cons h t ih =>
    obtain ⟨a, rfl, h⟩ := h
    exact .cons (.tup h (RepVs.ofInts [_, _])) ih
end
end Dg
/-! Dv: a walk over reversed(x), x a list or a tuple. -/
namespace Dg
open PySem PySem.Spec PyProof.Rows L2
section
variable {X : Cx} {W : WX}
/-! ### more that a suite may ask of the caught error -/
variable {i : Nat} {a : Addr}
end
end Dg
/-! Dz: zip of a tuple and a list. -/
namespace Dg
open PySem PySem.Spec PyProof.Rows L2 RZ
section
variable {P : Program} {w : World} {A : Around}
/-- draws of a tuple iterator from the place n on -/
theorem drT (hh : A.handled = none) {i a : Addr} (ne : a ≠ i) (its : Array Value) (n : Nat) : ∃ m Pv St, Draws P w A i [i, a] m Pv St ∧ n ≤ m ∧ (its.size ≤ n → n = m) ∧ (n < its.size → n < m) ∧ (∀ h : Heap, h.IsTupleIter i a n → h.IsTuple a its → St n h) ∧ (∀ x, Pv n x → its[n]? = some x) ∧ (∀ h : Heap, n < its.size → St (n + 1) h → h.IsTupleIter i a (n + 1)) := by
  by_cases lt : n < its.size
  · exact ⟨_, _, _, Draws.tuple hh i a ne its, by omega, by omega, fun _ => lt, fun h a b => ⟨a, b⟩, fun x e => e, fun h _ s => s.1⟩
  · refine ⟨n, fun _ _ => False, fun j h => j = n ∧ h.IsTupleIter i a j ∧ h.IsTuple a its, ⟨?_, ?_, ?_, ?_⟩, Nat.le_refl _, fun _ => rfl, fun h => absurd h lt, fun h a b => ⟨rfl, a, b⟩, fun x e => e.elim, fun h l => absurd l lt⟩
    · rintro j h ⟨_, ⟨o, ho, _⟩, _⟩; exact ⟨o, ho⟩
    · rintro j h h' ⟨e, s1, s2⟩ k; exact ⟨e, s1.at fun o q => k i (by simp) o q, s2.at fun o q => k a (by simp) o q⟩
    · rintro j s Q E hj ⟨e, _⟩; omega
    · rintro s Q E ⟨_, s1, s2⟩ hE
      exact wpAny_nextOf_tuple_end hh s1 s2 (by simp; omega) hE
end
section
variable {X : Cx} {W : WX}
end
end Dg
/-! Dt: try with several except clauses, with or without names. -/
namespace Dg
open PySem PySem.Spec PyProof.Rows L2
abbrev Hd3 := Value × Option Nat × (Addr → Value → Option Addr → TS)
/-- what goes on behind a suite that held a name -/
def behind (D : Ends) (i : Nat) : Ends := { nx := fun s H => D.nx (s.set i none) H, rt := D.rt, bk := fun s H => D.bk (s.set i none) H, ct := fun s H => D.ct (s.set i none) H }
def wMix (K : PySem.W.Frag) (W : WX) (D : Ends) : List Hd3 → WX
  | [] => W
  | (c, none, ts) :: l => fun t d σ H => ∃ y, PySem.W.exmOne K t c = some y ∧ (y = true → ∀ p, H p = none → ts p t d D σ H) ∧ (y = false → wMix K W D l t d σ H)
  | (c, some i, ts) :: l => fun t d σ H => ∃ y, PySem.W.exmOne K t c = some y ∧ (y = true → ∀ p, H p = none → ts p t d (behind D i) (σ.set i (some (.ref p))) H) ∧ (y = false → wMix K W D l t d σ H)
def SuOk (X : Cx) (su : List Stmt) (ts : Addr → Value → Option Addr → TS) : Prop := ∀ (p : Addr) (oe : Obj) (t : Value) (d : Option Addr) (pn : List (Addr × Obj)), Zc t d oe → (∃ vs, oe.data = .fields vs) → PSs (X.suite p ((p, oe) :: pn)) su (ts p t d)
inductive HdsMix (X : Cx) : List ExceptHandler → List Hd3 → Prop
  | nil : HdsMix X [] []
  | bare {x : Str} {c : Value} {ts : Addr → Value → Option Addr → TS} {b : Stmt} {su : List Stmt} {np q : Pos} {hds : List ExceptHandler} {l : List Hd3} : Names X x c → SuOk X (b :: su) ts → HdsMix X hds l → HdsMix X (.ExceptHandler (some (.Name x np)) none (b :: su) q :: hds) ((c, none, ts) :: l)
  | named {x n : Str} {i : Nat} {c : Value} {ts : Addr → Value → Option Addr → TS} {b : Stmt} {su : List Stmt} {np q : Pos} {hds : List ExceptHandler} {l : List Hd3} : Names X x c → X.N[i]? = some n → X.env.kindOf n = some .local → SuOk X (b :: su) ts → HdsMix X hds l → HdsMix X (.ExceptHandler (some (.Name x np)) (some n) (b :: su) q :: hds) ((c, some i, ts) :: l)
/-! ### the mirror -/
abbrev Cl3 := List (Str × Bool) × Option Nat × (Str → FS)
def sHds : List Cl3 → Str → FS
  | [], c, s, μ => .ex c s μ
  | (tab, oi, ms) :: l, c, s, μ => match tab.lookup c with
    | none => .bad
    | some false => sHds l c s μ
    | some true => match oi with
      | none => ms c s μ
      | some i => if i < s.length then hideO i (ms c (s.set i none) μ) else .bad
section
variable {X : Cx} {W : WX} {k : Nat}
def tsM (X : Cx) (su : List Stmt) (p : Addr) (t : Value) (d : Option Addr) : TS := fun D σ H => ∀ oe pn, Zc t d oe → (∃ vs, oe.data = .fields vs) → WSs (X.suite p ((p, oe) :: pn)) su D σ H
theorem tsM_ok {su : List Stmt} : SuOk X su (tsM X su) := fun p oe t d pn hz hf => ⟨fun pins s σ H D I h => pss_w.run pins s σ H D I (h oe pn hz hf)⟩
inductive MOk (X : Cx) (W : WX) : List ExceptHandler → List Cl3 → List Hd3 → Prop
  | nil : MOk X W [] [] []
  | bare {x : Str} {C : Addr} {b : Stmt} {su : List Stmt} {np q : Pos} {tab : List (Str × Bool)} {ms : FS} {hds : List ExceptHandler} {l : List Cl3} {L : List Hd3} : X.mg x = some (.ref C) → Gl X x → (x == ("__debug__" : Str)) = false → (∀ q ∈ tab, Exm X.K X.mg q.1 x q.2) →
      (∀ (a : Addr) (oe : Obj) (cls : Value) (d : Option Addr) (pn : List (Addr × Obj)), Zc cls d oe → (∃ vs, oe.data = .fields vs) → CSs (X.suite a ((a, oe) :: pn)) W (b :: su) ms) → MOk X W hds l L →
      MOk X W (.ExceptHandler (some (.Name x np)) none (b :: su) q :: hds) ((tab, none, fun _ => ms) :: l) ((.ref C, none, tsM X (b :: su)) :: L)
  | named {x n : Str} {i : Nat} {C : Addr} {b : Stmt} {su : List Stmt} {np q : Pos} {tab : List (Str × Bool)} {ms : Str → FS} {hds : List ExceptHandler} {l : List Cl3} {L : List Hd3} : X.mg x = some (.ref C) → Gl X x → (x == ("__debug__" : Str)) = false → X.N[i]? = some n → X.env.kindOf n = some .local → (∀ q ∈ tab, Exm X.K X.mg q.1 x q.2) →
      (∀ (c : Str) (C a : Addr) (oe : Obj) (pn : List (Addr × Obj)), (c, true) ∈ tab → X.mg c = some (.ref C) → Zc (.ref C) none oe → (∃ vs, oe.data = .fields vs) → CSsat (X.suite a ((a, oe) :: pn)) W i a (b :: su) (ms c)) → MOk X W hds l L →
      MOk X W (.ExceptHandler (some (.Name x np)) (some n) (b :: su) q :: hds) ((tab, some i, ms) :: l) ((.ref C, some i, tsM X (b :: su)) :: L)
theorem MOk.hds {hds : List ExceptHandler} {l : List Cl3} {L : List Hd3} (m : MOk X W hds l L) : HdsMix X hds L := by
  induction m with
  | nil => exact .nil
  | bare h1 h2 h3 h4 h5 r ih => exact .bare ⟨h2, h3, .inl h1⟩ tsM_ok ih
  | named h1 h2 h3 h4 h5 h6 h7 r ih => exact .named ⟨h2, h3, .inl h1⟩ h4 h5 tsM_ok ih
theorem MOk.run {D : Ends} {cls : Value} {ρ : List Addr} {H : Hp} {σ : L2.St} {c : Str} {s : Slots} {μ : Mem} (hs : RepS X.K H ρ s σ) (hm : RepM X.K H ρ μ) (em : X.mg c = some cls) {hds : List ExceptHandler} {l : List Cl3} {L : List Hd3} (m : MOk X W hds l L)
    (h : PostS X W ρ H (sHds l c s μ) D) : wMix X.K W D L cls none σ H := by
  have pick : ∀ {x : Str} {C : Addr} {tab : List (Str × Bool)} {y : Bool}, X.mg x = some (.ref C) → (∀ q ∈ tab, Exm X.K X.mg q.1 x q.2) → tab.lookup c = some y → PySem.W.exmOne X.K cls (.ref C) = some y ∧ ∃ A, cls = .ref A := fun {x C tab y} h1 ht hl => by
    obtain ⟨Cx, Cy, e1, e2, e3⟩ := ht (c, y) (lookup_mem hl)
    simp only at e1 e2 e3
    rw [em] at e1
    cases e1
    rw [h1] at e2
    cases e2
    exact ⟨e3, Cx, rfl⟩
  induction m with
  | nil => exact h cls σ H ρ (Stp.refl hm) hs em
  | @bare x C b su np q tab ms hds l L h1 h2 h3 h4 h5 r ih =>
    unfold sHds at h
    cases hl : tab.lookup c with
    | none => rw [hl] at h; exact h.elim
    | some y =>
      rw [hl] at h
      obtain ⟨e, _⟩ := pick h1 h4 hl
      refine ⟨y, e, ?_, ?_⟩
      · rintro rfl a ha oe pn hz hf
        exact h5 a oe cls none pn hz hf ρ μ s σ H D hs hm h
      · rintro rfl
        exact ih h
  | @named x n i C b su np q tab ms hds l L h1 h2 h3 h4 h5 h6 h7 r ih =>
    unfold sHds at h
    cases hl : tab.lookup c with
    | none => rw [hl] at h; exact h.elim
    | some y =>
      rw [hl] at h
      obtain ⟨e, A, eA⟩ := pick h1 h6 hl
      subst eA
      refine ⟨y, e, ?_, ?_⟩
      · rintro rfl a ha oe pn hz hf
        simp only at h
        split at h
        · rename_i hlt
          exact cs_tryG_end (h7 c A a oe pn (lookup_mem hl) em hz hf) hlt hs (Stp.refl hm) h
        · exact h.elim
      · rintro rfl
        exact ih h
end
end Dg
/-! Du: dict comprehensions whose keys are ints or texts; a subscript in a suite that asks the caught error. -/
namespace Dg
open PySem PySem.Spec PyProof.Rows L2
section
variable {X : Cx} {W : WX} {i : Nat} {a : Addr}
end
section
variable {X : Cx} {W W0 : WX} {k : Nat}
def dkGo (j : IterU) (own : List Nat) (g : Tgt) (t : FT) (kk e : FE) (s : Slots) (D : Nat) : Nat → Nat → Mem → Res U
  | 0, _, _ => .bad
  | f + 1, i, μ => match itemAt j i μ with
    | none => .bad
    | some none => .ok (.ref D) μ
    | some (some u) => match setT g u (wipeU s own) with
      | none => .bad
      | some s1 => match t s1 μ with
        | .ok true μ3 => match kk s1 μ3 with
          | .ok kv μ4 => match e s1 μ4 with
            | .ok v μ5 => match μ5[D]? with
              | some (.dct acc) => match keyU kv with
                | some ky => if acc.length < lim then dkGo j own g t kk e s D f (i + 1) (μ5.set D (.dct (putU acc ky v))) else .bad
                | none => .bad
              | _ => .bad
            | _ => .bad
          | _ => .bad
        | .ok false μ3 => dkGo j own g t kk e s D f (i + 1) μ3
        | _ => .bad
def fDcK (it : FI) (own : List Nat) (g : Tgt) (t : FT) (kk e : FE) : FE := fun s μ => (it s μ).bind fun j μ1 => dkGo j own g t kk e s μ1.length fuelF 0 (μ1 ++ [.dct []])
theorem dcK_reads {tg iter : Expr} {ifs : List Expr} {kx vx : Expr} {scope : Scope} {own : List Nat} {mi : FI} {g : Tgt} {t : FT} {kk e : FE} (hi : CI X W tg iter mi)
    (hg : ∀ s H0 C cl fp, CG (X.blk s H0 scope (compEnvC scope cl C X.env) fp) tg g) (ht : ∀ s H0 C cl fp, CTs (X.blk s H0 scope (compEnvC scope cl C X.env) fp) W0 ifs t)
    (hk : ∀ s H0 C cl fp, CE (X.blk s H0 scope (compEnvC scope cl C X.env) fp) W0 kx kk) (he : ∀ s H0 C cl fp, CE (X.blk s H0 scope (compEnvC scope cl C X.env) fp) W0 vx e) (hsub : subT g own = true)
    {ρ : List Addr} {μ : Mem} {s : Slots} {σ : L2.St} {H : Hp} {Q : VK} (hs : RepS X.K H ρ s σ) (hm : RepM X.K H ρ μ) (h : Post X W σ relV ρ H (fDcK mi own g t kk e s μ) Q) :
    tDc (WI X tg iter) (WGb X scope tg) (WTb X scope ifs) (WEb X scope kx) (WEb X scope vx) own σ H Q := by
  refine hi ρ μ s σ H _ hs hm (h.bind fun j μ1 J H1 ρ1 t1 r1 h1 => ?_)
  intro D hD
  have hJ : ItOk X.K ρ1 H1 j J := r1
  have tD : Stp X.K ρ1 H1 (ρ1 ++ [D]) (upd H1 D (.dK [])) (μ1 ++ [.dct []]) := newD t1.mem hD (RepKV.nil (K := X.K) (H := H1) (ρ := ρ1))
  refine ⟨fun i m H' => ∃ ρ' μ', Stp X.K (ρ1 ++ [D]) (upd H1 D (.dK [])) ρ' H' μ' ∧ Post X W σ relV ρ' H' (dkGo j own g t kk e s μ1.length m i μ') Q, ⟨fuelF, ρ1 ++ [D], μ1 ++ [.dct []], Stp.refl tD.mem, h1.into tD⟩, ?_⟩
  intro i m H' ⟨ρ', μ', t', h'⟩
  have hDr : ρ'[μ1.length]? = some D := t'.ext.get (by rw [← t1.mem.len, List.getElem?_append_right (Nat.le_refl _)]; simp)
  cases m with
  | zero => exact h'.elim
  | succ m =>
    have q := hJ i ρ' H' μ' (tD.ext.trans t'.ext) (tD.tx.trans t'.tx) t'.mem
    unfold dkGo at h'
    cases e0 : itemAt j i μ' with
    | none => rw [e0] at h'; exact h'.elim
    | some o =>
      rw [e0] at h' q
      cases o with
      | none => exact .inl ⟨q, h'.ok (Stp.refl t'.mem) (.ref hDr)⟩
      | some u =>
        refine .inr ⟨q.1, fun H2 => ∃ ρ2 μ2, Stp X.K (ρ1 ++ [D]) (upd H1 D (.dK [])) ρ2 H2 μ2 ∧ Post X W σ relV ρ2 H2 (dkGo j own g t kk e s μ1.length m (i + 1) μ2) Q, fun H2 z => ⟨m, Nat.lt_succ_self m, z⟩, fun x H'' y => ?_⟩
        obtain ⟨t2, ru⟩ := q.2 x H'' y
        simp only at h'
        have hsw : RepS X.K H'' ρ' (wipeU s own) (wipe σ own) := (t2.s (t'.s (tD.s (t1.s hs)))).wipe own
        cases es : setT g u (wipeU s own) with
        | none => rw [es] at h'; exact h'.elim
        | some s1 =>
          rw [es] at h'
          simp only at h'
          intro s0 H0 C cl fp
          refine hg s0 H0 C cl fp ρ' (wipeU s own) (wipe σ own) H'' u x s1 _ hsw ru es fun σ3 hs3 hw => ⟨?_, ?_⟩
          · have := hw own (subT_ok hsub)
            rw [this]
            exact wipe_wipe fun i hi => hi
          · intro s0' H0' C' cl' fp'
            refine ht s0' H0' C' cl' fp' ρ' μ' s1 σ3 H'' _ hs3 t2.mem ?_
            cases et : t s1 μ' with
            | ex c m2 => rw [et] at h'; exact h'.elim
            | bad => rw [et] at h'; exact h'.elim
            | ok b μ3 =>
              rw [et] at h'
              intro b' H4 ρ4 t4 r4
              cases r4
              cases b with
              | false => exact iteF ⟨ρ4, μ3, (t'.trans t2).trans t4, Post.into (t2.trans t4) h'⟩
              | true =>
                refine iteT ?_
                intro s0' H0' C' cl' fp'
                refine hk s0' H0' C' cl' fp' ρ4 μ3 s1 σ3 H4 _ (t4.s hs3) t4.mem ?_
                simp only at h'
                cases ekk : kk s1 μ3 with
                | ex c m2 => rw [ekk] at h'; exact h'.elim
                | bad => rw [ekk] at h'; exact h'.elim
                | ok kv μ4 =>
                  rw [ekk] at h'
                  simp only at h'
                  intro yk H5 ρ5 t5 r5
                  intro s0' H0' C' cl' fp'
                  refine he s0' H0' C' cl' fp' ρ5 μ4 s1 σ3 H5 _ (t5.s (t4.s hs3)) t5.mem ?_
                  cases ee : e s1 μ4 with
                  | ex c m2 => rw [ee] at h'; exact h'.elim
                  | bad => rw [ee] at h'; exact h'.elim
                  | ok v μ5 =>
                    rw [ee] at h'
                    simp only at h'
                    intro w H6 ρ6 t6 r6
                    split at h'
                    · rename_i acc em
                      split at h'
                      · rename_i ky ek
                        split at h'
                        · rename_i hz
                          have hD6 : ρ6[μ1.length]? = some D := t6.ext.get (t5.ext.get (t4.ext.get (t2.ext.get hDr)))
                          obtain ⟨kvs, q6, rr⟩ := dct_of t6.mem hD6 em
                          have t7 := putD t6.mem hD6 em (RepKV.put (k := ky) r6 rr)
                          exact ⟨kvs, ky, keyU_ok (t6.v r5) ek, q6, by rw [rr.length]; exact lim_lt hz, ρ6, _, ((((t'.trans t2).trans t4).trans t5).trans t6).trans t7, Post.into ((((t2.trans t4).trans t5).trans t6).trans t7) h'⟩
                        · exact h'.elim
                      · exact h'.elim
                    · exact h'.elim
/-- y = {k: v for ..}, keys ints or texts -/
theorem ps_setDc {i : Nat} {y : Str} {py spos : Pos} {kx vx tg iter : Expr} {ifs : List Expr} {scope : Scope} {own : List (Str × Nat)} {pos : Pos} {wi : TI} {g : TG} {tt : TT} {tk tv : TE} (hc : X.calm = true) (hN : X.N.Nodup) (hy : X.N[i]? = some y)
    (hyl : X.env.scope.names.lookup y = some .local) (hsw : swapsWith (.DictComp kx vx [⟨tg, iter, ifs, 0⟩] scope pos) (some (.Name y py)) spos.line X.env = pure true) (hi : PI X tg iter wi) (ok : BlkOk X.N X.env.scope scope own)
    (hg : ∀ s H C cl fp, PG (X.blk s H scope (compEnvC scope cl C X.env) fp) tg g) (ht : ∀ s H C cl fp, PTs (X.blk s H scope (compEnvC scope cl C X.env) fp) ifs tt) (hk : ∀ s H C cl fp, PE (X.blk s H scope (compEnvC scope cl C X.env) fp) kx tk)
    (hv : ∀ s H C cl fp, PE (X.blk s H scope (compEnvC scope cl C X.env) fp) vx tv) (hs0 : ∀ x, foldedSetIterable iter X.env x = pure x := by intro _; rfl) :
    PS X (.Assign [.Name y py] (.DictComp kx vx [⟨tg, iter, ifs, 0⟩] scope pos) spos) (tAsg (tDc wi g tt tk tv (own.map (·.2))) (gName i)) := by
  refine ⟨fun pins s σ H D I h => ?_⟩
  rw [exec_Assign_Name_used _ _ _ _ hsw]
  refine wpAny_bind (wpAny_standAt (wpAny_bind ?_))
  show wpAny _ X.A (do let _ ← comprehension (.DictComp kx vx [⟨tg, iter, ifs, 0⟩] scope pos) scope X.env (firstIterPos [⟨tg, iter, ifs, 0⟩] pos) newDict false (eval iter X.env) (some (assign (.Name y py) X.env))) _ _ s
  have h' : tDc wi g tt tk tv (own.map (·.2)) σ H (fun x H1 => gName i x σ H1 D.nx) := h
  refine wpAny_bind (thn (dc_core (Qf := fun _ s' => SP X pins D .next s') hc hN I hi ok hg ht hk hv hs0 h' fun L C s' m H' I' q hn f => ?_) fun _ s' z => wpAny_pure (wpAny_pure z))
  show wpAny _ _ (assign (.Name y py) X.env (.ref L)) _ _ _
  refine wpAny_assign_Name (store_ok2 (v := V.ref L) I' hN hy (.inl hyl) rfl (fun s2 I2 ⟨a, sb, ha⟩ => ?_) (.inr hyl))
  obtain ⟨c0, c1, c2, c3, c4, c5⟩ := f
  have ne : C ≠ a := ha.elim (fun z => by rw [z]; exact c1) fun z e => c4 y a z e.symm
  exact ⟨m, hn.sameBut sb ne, fun h3 sb3 => ⟨_, H', I2.turned (t' := s2.toks) (fun b o hb e => (sb3.2 b hb).trans e) c0 c1 c3 c4 c5, q⟩⟩
theorem ce_dcK {tg iter : Expr} {ifs : List Expr} {kx vx : Expr} {scope : Scope} {own : List (Str × Nat)} {pos : Pos} {mi : FI} {g : Tgt} {t : FT} {kk e : FE} (G : Good X W (k + 40)) (hN : X.N.Nodup) (ok : BlkOk X.N X.env.scope scope own) (hi : CI X W tg iter mi)
    (hg : ∀ s H0 C cl fp, CG (X.blk s H0 scope (compEnvC scope cl C X.env) fp) tg g) (ht : ∀ s H0 C cl fp, CTs (X.blk s H0 scope (compEnvC scope cl C X.env) fp) W0 ifs t)
    (hk : ∀ s H0 C cl fp, CE (X.blk s H0 scope (compEnvC scope cl C X.env) fp) W0 kx kk) (he : ∀ s H0 C cl fp, CE (X.blk s H0 scope (compEnvC scope cl C X.env) fp) W0 vx e) (hsub : subT g (own.map (·.2)) = true)
    (hs0 : ∀ x, foldedSetIterable iter X.env x = pure x := by intro _; rfl) : CE X W (.DictComp kx vx [⟨tg, iter, ifs, 0⟩] scope pos) (fDcK mi (own.map (·.2)) g t kk e) :=
  fun ρ μ s σ H Q hs hm h => ⟨_, pe_dc G.calm hN pi_w ok pg_wb pts_wb pe_wb pe_wb hs0, dcK_reads hi hg ht hk he hsub hs hm h⟩
theorem cs_setDcK {i : Nat} {y : Str} {py : Pos} {tg iter : Expr} {ifs : List Expr} {kx vx : Expr} {scope : Scope} {own : List (Str × Nat)} {pos spos : Pos} {mi : FI} {g : Tgt} {t : FT} {kk e : FE} (G : Good X W (k + 40)) (hN : X.N.Nodup) (hy : X.N[i]? = some y) (hyl : X.env.scope.names.lookup y = some .local)
    (hsw : swapsWith (.DictComp kx vx [⟨tg, iter, ifs, 0⟩] scope pos) (some (.Name y py)) spos.line X.env = pure true) (ok : BlkOk X.N X.env.scope scope own) (hi : CI X W tg iter mi)
    (hg : ∀ s H0 C cl fp, CG (X.blk s H0 scope (compEnvC scope cl C X.env) fp) tg g) (ht : ∀ s H0 C cl fp, CTs (X.blk s H0 scope (compEnvC scope cl C X.env) fp) W0 ifs t)
    (hk : ∀ s H0 C cl fp, CE (X.blk s H0 scope (compEnvC scope cl C X.env) fp) W0 kx kk) (he : ∀ s H0 C cl fp, CE (X.blk s H0 scope (compEnvC scope cl C X.env) fp) W0 vx e) (hsub : subT g (own.map (·.2)) = true)
    (hs0 : ∀ x, foldedSetIterable iter X.env x = pure x := by intro _; rfl) :
    CS X W (.Assign [.Name y py] (.DictComp kx vx [⟨tg, iter, ifs, 0⟩] scope pos) spos) (sAsg (.one i) (fDcK mi (own.map (·.2)) g t kk e)) := by
  intro ρ μ s σ H D hs hm h
  refine ⟨_, ps_setDc G.calm hN hy hyl hsw pi_w ok pg_wb pts_wb pe_wb pe_wb hs0, ?_⟩
  refine dcK_reads (W := W) hi hg ht hk he hsub hs hm ?_
  exact PostS.bind hs h fun u μ1 x H1 ρ1 t1 r1 h1 => h1 _ H1 ρ1 (Stp.refl t1.mem) ((t1.s hs).set r1)
end
end Dg
/-! Do: instances of own classes: attributes, methods, construction. -/
namespace Dg
open PySem PySem.Spec PyProof.Rows L2 RZ
def isO (c : Str) (μ : Mem) : U → Option (List (Str × U))
  | .ref r => match μ[r]? with
    | some (.obj c' fs) => if c' = c then some fs else none
    | _ => none
  | _ => none
def putFU (f : Str) (v : U) : List (Str × U) → List (Str × U)
  | [] => [(f, v)]
  | (g, x) :: r => if g = f then (g, v) :: r else (g, x) :: putFU f v r
def noEx : Res U → Res U
  | .ok u μ => .ok u μ
  | _ => .bad
section
variable {K : PySem.W.Frag} {H : Hp} {ρ : List Addr} {μ : Mem}
theorem isO_ok {c : Str} {u : U} {x : V} {fs : List (Str × U)} (hm : RepM K H ρ μ) (r : RepV K H ρ u x) (e : isO c μ u = some fs) : ∃ i a dx fvs, u = .ref i ∧ ρ[i]? = some a ∧ μ[i]? = some (.obj c fs) ∧ x = .ref a ∧ H a = some (.ins (He.ga K c) dx fvs) ∧ fvs.map (·.1) = fs.map (·.1) ∧ RepVs K H ρ (fs.map (·.2)) (fvs.map (·.2)) := by
  unfold isO at e
  split at e
  · rename_i i
    cases h : μ[i]? with
    | none => rw [h] at e; cases e
    | some cl =>
      rw [h] at e
      cases cl with
      | obj c' fs' =>
        try simp only at e
        split at e
        · rename_i hc
          subst hc
          cases e
          cases r with
          | ref e2 =>
            obtain ⟨dx, fvs, a1, a2, a3⟩ := hm.get e2 h
            exact ⟨i, _, dx, fvs, rfl, e2, h, rfl, a1, a2, a3⟩
        · cases e
      | _ => cases e
  · cases e
theorem lookup_rep : ∀ {fs : List (Str × U)} {fvs : List (Str × V)} {f : Str} {u : U}, fvs.map (·.1) = fs.map (·.1) → RepVs K H ρ (fs.map (·.2)) (fvs.map (·.2)) → fs.lookup f = some u → ∃ v, fvs.lookup f = some v ∧ RepV K H ρ u v
  | [], _, _, _, _, _, h => by cases h
  | (g, w) :: fs, [], _, _, e, _, _ => by simp at e
  | (g, w) :: fs, (g', v) :: fvs, f, u, e, r, h => by
    simp only [List.map_cons, List.cons.injEq] at e
    obtain ⟨e1, e2⟩ := e
    cases r with
    | cons r1 r2 =>
      rw [List.lookup_cons] at h ⊢
      try simp only at e1
      rw [e1]
      split at h
      · cases h; exact ⟨_, rfl, r1⟩
      · exact lookup_rep e2 r2 h
theorem lookup_non : ∀ {fs : List (Str × U)} {fvs : List (Str × V)} {f : Str}, fvs.map (·.1) = fs.map (·.1) → fs.lookup f = none → fvs.lookup f = none
  | [], [], _, _, _ => rfl
  | [], _ :: _, _, e, _ => by simp at e
  | (g, w) :: fs, [], _, e, _ => by simp at e
  | (g, w) :: fs, (g', v) :: fvs, f, e, h => by
    simp only [List.map_cons, List.cons.injEq] at e
    obtain ⟨e1, e2⟩ := e
    rw [List.lookup_cons] at h ⊢
    try simp only at e1
    rw [e1]
    split at h
    · cases h
    · exact lookup_non e2 h
theorem put_rep : ∀ {fs : List (Str × U)} {fvs : List (Str × V)} {f : Str} {u : U} {v : V}, fvs.map (·.1) = fs.map (·.1) → RepVs K H ρ (fs.map (·.2)) (fvs.map (·.2)) → RepV K H ρ u v → (putF f v fvs).map (·.1) = (putFU f u fs).map (·.1) ∧ RepVs K H ρ ((putFU f u fs).map (·.2)) ((putF f v fvs).map (·.2))
  | [], [], _, _, _, _, _, r => ⟨rfl, .cons r .nil⟩
  | [], _ :: _, _, _, _, e, _, _ => by simp at e
  | (g, w) :: fs, [], _, _, _, e, _, _ => by simp at e
  | (g, w) :: fs, (g', x) :: fvs, f, u, v, e, r, rv => by
    simp only [List.map_cons, List.cons.injEq] at e
    obtain ⟨e1, e2⟩ := e
    cases r with
    | cons r1 r2 =>
      try simp only at e1
      subst e1
      unfold putF putFU
      split
      · exact ⟨by simp [e2], .cons rv r2⟩
      · obtain ⟨a, b⟩ := put_rep e2 r2 rv (f := f)
        exact ⟨by simp [a], .cons r1 b⟩
end
section
variable {X : Cx} {W : WX} {k : Nat}
/-! ### e.f -/
def gFld (c f : Str) (u : U) (μ : Mem) : Res U := match isO c μ u with
  | some fs => (match fs.lookup f with
    | some v => .ok v μ
    | none => .bad)
  | none => .bad
def fFld (c f : Str) (me : FE) : FE := fun s μ => (me s μ).bind fun u μ1 => gFld c f u μ1
theorem ce_fld {c f : Str} {e : Expr} {me : FE} {pos : Pos} (cl : Cls X.K (He.ga X.K c)) (na : NoAttr X.K (He.ga X.K c) f) (he : CE X W e me) (hb : attributeBase e f X.env (eval e X.env) = eval e X.env := by rfl) : CE X W (.Attribute e f pos) (fFld c f me) := by
  intro ρ μ s σ H Q hs hm h
  refine ⟨_, pe_fld pe_w hb, ?_⟩
  refine he ρ μ s σ H _ hs hm (h.bind fun u μ1 x H1 ρ1 t1 r1 h1 => ?_)
  unfold gFld at h1
  cases e1 : isO c μ1 u with
  | none => rw [e1] at h1; exact h1.elim
  | some fs =>
    rw [e1] at h1
    cases e2 : fs.lookup f with
    | none => simp only [e2] at h1; exact h1.elim
    | some w =>
      simp only [e2] at h1
      obtain ⟨i, a, dx, fvs, rfl, ha, hc, rfl, hH, hk, hv⟩ := isO_ok t1.mem r1 e1
      obtain ⟨v, l1, l2⟩ := lookup_rep hk hv e2
      exact ⟨a, _, dx, fvs, v, rfl, hH, cl, na, l1, h1 v H1 ρ1 (Stp.refl t1.mem) l2⟩
/-! ### e.f = v -/
def stO (c f : Str) (v u : U) (μ : Mem) : Option Mem := match isO c μ u, u with
  | some fs, .ref r => if fs.length < 1000 then some (μ.set r (.obj c (putFU f v fs))) else none
  | _, _ => none
def sFldS (c f : Str) (mo me : FE) : FS := fun s μ => ofR (me s μ) s fun v μ1 => ofR (mo s μ1) s fun u μ2 => match stO c f v u μ2 with
  | some μ3 => .nx s μ3
  | none => .bad
theorem cs_fld {c f : Str} {o e : Expr} {mo me : FE} {pos pos' : Pos} (cl : Cls X.K (He.ga X.K c)) (na : NoAttr X.K (He.ga X.K c) f) (ho : CE X W o mo) (he : CE X W e me) (hs0 : swapsWith e (some (.Attribute o f pos')) pos.line X.env = pure false := by rfl) : CS X W (.Assign [.Attribute o f pos'] e pos) (sFldS c f mo me) := by
  intro ρ μ s σ H D hs hm h
  refine ⟨_, ps_fld pe_w pe_w hs0, ?_⟩
  refine he ρ μ s σ H _ hs hm (PostS.bind hs h fun v μ1 y H1 ρ1 t1 r1 h1 => ?_)
  refine ho ρ1 μ1 s σ H1 _ (t1.s hs) t1.mem (PostS.bind (t1.s hs) h1 fun u μ2 x H2 ρ2 t2 r2 h2 => ?_)
  unfold stO at h2
  cases e1 : isO c μ2 u with
  | none => rw [e1] at h2; exact h2.elim
  | some fs =>
    obtain ⟨i, a, dx, fvs, rfl, ha, hc, rfl, hH, hk, hv⟩ := isO_ok t2.mem r2 e1
    rw [e1] at h2
    simp only at h2
    split at h2
    · rename_i μ3 e3
      split at e3
      · rename_i hl
        cases e3
        have hlen : fvs.length < 1000 := by
          have := congrArg List.length hk
          simp only [List.length_map] at this
          omega
        refine ⟨a, _, dx, fvs, rfl, hH, cl, na, hlen, ?_⟩
        have ry := t2.v r1
        obtain ⟨p1, p2⟩ := put_rep (f := f) hk hv ry
        have t : TX H2 (upd H2 a (.ins (He.ga X.K c) dx (putF f y fvs))) := (t2.mem.get ha hc).tx rfl
        have st := Stp.put t2.mem ha hc rfl (o := .ins (He.ga X.K c) dx (putF f y fvs)) (c := .obj c (putFU f v fs)) ⟨dx, _, upd_same, p1, p2.mono t (Ext.refl _)⟩
        exact h2 σ _ ρ2 st (st.s (t2.s (t1.s hs)))
      · cases e3
    · exact h2.elim
/-! ### o.m(e, ..) -/
theorem pass_no {X : Cx} : Passes (L2.CX X.prog X.w) X (fun _ _ _ => False) := fun _ _ _ _ _ _ _ h => by
  obtain ⟨_, _, _, _, _, _, _, _, _, _, _, _, z⟩ := h
  exact z.elim
theorem noEx_ok {r : Res U} {u : U} {m : Mem} (h : noEx r = .ok u m) : r = .ok u m := by
  cases r <;> first | exact h | cases h
def fMeth (c m : Str) (n : Nat) (g : List U → Mem → Res U) (mo : FE) (ma : FA) : FE := fun s μ => (mo s μ).bind fun u μ1 => match isO c μ1 u with
  | some fs => if (fs.lookup m).isNone = true then (ma s μ1).bind fun us μ2 => if us.length + 1 = n then noEx (g (u :: us) μ2) else .bad else .bad
  | none => .bad
theorem ce_meth {c m : Str} {f : Addr} {fd : FuncData} {ps : List Str} {g : List U → Mem → Res U} {o e : Expr} {es : List Expr} {mo : FE} {ma : FA} {apos pos : Pos} {j j2 : Nat} (G : Good X W j2) (F : FnD X.prog X.w X.K X.mg X.base (L2.CX X.prog X.w) j f fd ps (spF X.K X.mg ps.length g))
    (ho : CE X W o mo) (ha : CA X W (e :: es) ma) (hp : ∀ {to : TE} {t : TA}, PE X o to → PA X (e :: es) t → PE X (.Call (.Attribute o m apos) (e :: es) [] pos) (tMeth (He.ga X.K c) m (spF X.K X.mg ps.length g) [] (fun _ _ _ => False) to t)) :
    CE X W (.Call (.Attribute o m apos) (e :: es) [] pos) (fMeth c m ps.length g mo ma) := by
  intro ρ μ s σ H Q hs hm h
  refine ⟨_, hp pe_w pa_w, ?_⟩
  refine ho ρ μ s σ H _ hs hm (h.bind fun u μ1 x H1 ρ1 t1 r1 h1 => ?_)
  cases e1 : isO c μ1 u with
  | none => rw [e1] at h1; exact h1.elim
  | some fs =>
    rw [e1] at h1
    simp only at h1
    split at h1
    · rename_i hl
      obtain ⟨i, a, dx, fvs, rfl, ha1, hc, rfl, hH, hk, hv⟩ := isO_ok t1.mem r1 e1
      refine ⟨a, dx, fvs, rfl, hH, lookup_non hk (Option.isNone_iff_eq_none.mp hl), ?_⟩
      refine ha ρ1 μ1 s σ H1 _ (t1.s hs) t1.mem (h1.bind fun us μ2 vs H2 ρ2 t2 r2 h2 => ?_)
      split at h2
      · rename_i hn
        cases hz : noEx (g (.ref i :: us) μ2) with
        | ok w μ3 =>
          rw [hz] at h2
          have hg := noEx_ok hz
          refine ⟨by rw [List.append_nil, List.length_cons, ← RepVs.length r2]; exact hn, ρ2, μ2, .ref i :: us, ?_, t2.mem, ?_⟩
          · rw [List.append_nil]; exact .cons (t2.v r1) r2
          · rw [hg]
            exact fun v H' ρ' t r => h2 v H' ρ' t r
        | ex c' m' => cases hq : g (.ref i :: us) μ2 <;> rw [hq] at hz <;> cases hz
        | bad => rw [hz] at h2; exact h2.elim
      · exact h2.elim
    · exact h1.elim
/-! ### C(e, ..) -/
def fMake (c : Str) (n : Nat) (g : List U → Mem → Res U) (ma : FA) : FE := fun s μ => (ma s μ).bind fun us μ1 => if us.length + 1 = n then
    match g (.ref μ1.length :: us) (μ1 ++ [.obj c []]) with
    | .ok .non μ2 => .ok (.ref μ1.length) μ2
    | _ => .bad
  else .bad
theorem ce_make {c : Str} {f : Addr} {fd : FuncData} {ps : List Str} {g : List U → Mem → Res U} {x : Str} {e : Expr} {es : List Expr} {ma : FA} {p pos : Pos} {j j2 : Nat} (G : Good X W j2) (F : FnD X.prog X.w X.K X.mg X.base (L2.CX X.prog X.w) j f fd ps (spF X.K X.mg ps.length g))
    (ha : CA X W (e :: es) ma) (hp : ∀ {t : TA}, PA X (e :: es) t → PE X (.Call (.Name x p) (e :: es) [] pos) (tMake (He.ga X.K c) (spF X.K X.mg ps.length g) [] (fun _ _ _ => False) t)) :
    CE X W (.Call (.Name x p) (e :: es) [] pos) (fMake c ps.length g ma) := by
  intro ρ μ s σ H Q hs hm h
  refine ⟨_, hp pa_w, ?_⟩
  refine ha ρ μ s σ H _ hs hm (h.bind fun us μ1 vs H1 ρ1 t1 r1 h1 => ?_)
  intro x dx nx ndx nex
  split at h1
  · rename_i hn
    have s1 : Stp X.K ρ1 H1 ρ1 (upd H1 dx (.own x)) μ1 := Stp.temp t1.mem ndx
    have nx' : upd H1 dx (.own x) x = none := by rw [upd_ne (Ne.symm nex)]; exact nx
    have s2 : Stp X.K ρ1 (upd H1 dx (.own x)) (ρ1 ++ [x]) (upd (upd H1 dx (.own x)) x (.ins (He.ga X.K c) dx [])) (μ1 ++ [.obj c []]) := Stp.new s1.mem nx' ⟨dx, [], upd_same, rfl, .nil⟩
    have t := s1.trans s2
    have rr : RepV X.K (upd (upd H1 dx (.own x)) x (.ins (He.ga X.K c) dx [])) (ρ1 ++ [x]) (.ref μ1.length) (.ref x) := refN s1.mem
    refine ⟨by rw [List.append_nil, List.length_cons, ← RepVs.length r1]; exact hn, ρ1 ++ [x], _, .ref μ1.length :: us, ?_, t.mem, ?_⟩
    · rw [List.append_nil]; exact .cons rr (t.vs r1)
    · cases hz : g (.ref μ1.length :: us) (μ1 ++ [.obj c []]) with
      | ok w μ2 =>
        rw [hz] at h1
        cases w with
        | non =>
          intro v H' ρ' t' r'
          cases r'
          exact ⟨rfl, h1 (.ref x) H' ρ' (t.trans t') (t'.v rr)⟩
        | _ => exact h1.elim
      | ex c' m' => rw [hz] at h1; exact h1.elim
      | bad => rw [hz] at h1; exact h1.elim
  · exact h1.elim
end
end Dg
/-! De: a walk over enumerate(list); list(range(n)). -/
namespace Dg
open PySem PySem.Spec PyProof.Rows L2
theorem it_enum {K : PySem.W.Frag} {H : Hp} {ρ : List Addr} {r : Nat} {a : Addr} (hr : ρ[r]? = some a) : ItOk K ρ H (.enum r) (Ite K a) := by
  intro i ρ' H' μ' ex tx hm
  simp only [itemAt]
  cases e : listAt μ' r with
  | none => trivial
  | some us =>
    obtain ⟨vs, q, rr⟩ := listAt_ok hm (ex.get hr) e
    simp only [Option.map_some]
    cases h : us[i]? with
    | none =>
      simp only [Option.map_none]
      exact ⟨vs, q, by rw [← RepVs.length rr]; exact List.getElem?_eq_none_iff.mp h⟩
    | some u =>
      simp only [Option.map_some]
      obtain ⟨x, hx, rx⟩ := RepVs.get rr h
      refine ⟨⟨vs, x, q, hx⟩, ?_⟩
      rintro y H'' ⟨T, x', rfl, nT, rfl, hall⟩
      have e2 := hall vs q
      rw [hx] at e2
      cases e2
      exact ⟨Stp.temp hm nT, newT nT (.cons .int (.one rx))⟩
section
variable {X : Cx} {W : WX}
def iEnumU (a : FE) : FI := fun s μ => (a s μ).bind fun u μ1 => match u with
  | .ref r => match listAt μ1 r with
    | some _ => .ok (.enum r) μ1
    | none => .bad
  | _ => .bad
theorem ci_enum {tg a : Expr} {ma : FE} {p pos : Pos} (ha : CE X W a ma)
    (hp : ∀ {ta : TA}, PA X [a] ta → PI X tg (.Call (.Name "enumerate" p) [a] [] pos) (iEnum X.K ta)) (hs1 : starEach [a] X.env = (false, eval a X.env) :: starEach [] X.env := by rfl) :
    CI X W tg (.Call (.Name "enumerate" p) [a] [] pos) (iEnumU ma) := by
  intro ρ μ s σ H R hs hm h
  refine ⟨_, hp (pa_cons pe_w pa_nil hs1), ?_⟩
  refine ha ρ μ s σ H _ hs hm (h.bind fun u μ1 x H1 ρ1 t1 r1 h1 => ?_)
  split at h1
  · cases r1 with
    | ref b1 =>
      split at h1
      · rename_i e2
        obtain ⟨xs, q2, _⟩ := listAt_ok t1.mem b1 e2
        exact ⟨_, _, rfl, q2, h1.ok (Stp.refl t1.mem) (it_enum b1)⟩
      · exact h1.elim
  · exact h1.elim
end
end Dg
/-! Dw: dicts whose keys are tuples of ints: locks, walks over the keys, displays. -/
namespace Dg
open PySem PySem.Spec PyProof.Rows L2
section
variable {X : Cx} {W : WX} {k : Nat}
end
end Dg
/-! Dx: a dict display whose keys are tuples of ints. -/
namespace Dg
open PySem PySem.Spec PyProof.Rows L2
section
variable {prog : Program} {w : World} {T : Type} [DecidableEq T] {knd : HeapKind prog w T} {A : Around} {E : Value → Shared → Prop} {s : Shared} {env : Env}
end
def mergeI (xs : Ti) (more : Ti) : Ti := more.foldl (fun acc p => putI acc p.1 p.2.1 p.2.2) xs
def mergeUI (kus more : KI) : KI := more.foldl (fun acc p => putUI acc p.1 p.2) kus
theorem PR.merge : ∀ {more : Ti} {rs : List (List Int × Addr × Value)} {xs : Ti} {ys : List (List Int × Addr × Value)}, PR more rs → PR xs ys → PR (mergeI xs more) (storedAllH ys rs) := by
  intro more rs xs ys r
  unfold PR at r
  induction r generalizing xs ys with
  | nil => intro q; exact q
  | @cons p q ps qs h t ih =>
    intro r0
    obtain ⟨e1, e2, e3⟩ := h
    have e : PR (putI xs p.1 p.2.1 p.2.2) (storedH ys q.1 q.2.1 q.2.2) := by
      rw [← e1, ← e2]
      exact r0.put p.1 p.2.1 e3
    exact ih e
section
variable {X : Cx} {W : WX} {k : Nat}
theorem RepTi.merge {K : PySem.W.Frag} {H : Hp} {ρ : List Addr} : ∀ {more : KI} {mv : Ti} {kus : KI} {kvs : Ti}, RepTi K H ρ more mv → RepTi K H ρ kus kvs → RepTi K H ρ (mergeUI kus more) (mergeI kvs mv)
  | [], mv, kus, kvs, h, g => by
    have e : mv = [] := by
      have := h.len
      exact List.length_eq_zero_iff.mp (by simpa using this)
    subst e
    exact g
  | (k, u) :: more, [], kus, kvs, h, g => by have := h.len; simp at this
  | (k, u) :: more, (k', b, v) :: mv, kus, kvs, h, g => by
    obtain ⟨a1, a2, a3⟩ := h.to
    simp only [List.map_cons, List.cons.injEq] at a2 a3
    obtain ⟨e1, a2⟩ := a2
    subst e1
    cases a3 with
    | cons r1 r2 =>
      show RepTi K H ρ (mergeUI (putUI kus k' u) more) (mergeI (putI kvs k' b v) mv)
      exact RepTi.merge (RepTi.of (fun p hp => a1 p (by simp [hp])) a2 r2) (g.put (a1 (k', b, v) (List.mem_cons_self ..)) r1)
end
end Dg
/-! Dy: methods of texts, str(..), int(text), displays with a starred part, {e!r}. -/
namespace Dg
open PySem PySem.Spec PyProof.Rows L2 RZ
section
variable {X : Cx} {W : WX} {k : Nat}
end
end Dg
/-! Ef: enumerate(tuple). -/
namespace PySem
open Sem (wp)
open AutoSeq1 (wpAny_loadPart')
theorem meets_enumerate_newT (l : Addr) (items : Array Value) (n : Nat) (dct : Option Addr) (sl : Array (Option Value)) :
    Meets (Builtin.«enumerate.__new__» ⟨[.type "enumerate", .ref l], []⟩) (fun _ R s => s.heap.get? l = some { cls := .type "tuple", dict := dct, data := .seq items n, slots := sl } ∧
      R (.ok (.ret (.ref (s.heap.push { cls := .type "tuple_iterator", data := .fields #[.ref l, .int 0 0] }).objs.size)))
        { s with heap := (s.heap.push { cls := .type "tuple_iterator", data := .fields #[.ref l, .int 0 0] }).push { cls := .type "enumerate", data := .fields #[.none, .bool false, .ref s.heap.objs.size, rawInt 0, .none, .none] } }) :=
  .of_wp fun prog w A R s h => by
    obtain ⟨hp, g, d, tk, os⟩ := s; obtain ⟨hl, h⟩ := h
    have hsub := sub_enumerate
    have hL : Heap.IsTuple (Shared.heap ⟨hp, g, d, tk, os⟩) l items := ⟨_, hl, rfl, n, rfl⟩
    wp_walk using wpAny_loadPart' hl
    refine wpAny_stack_any fun st => wpAny_pure ?_
    split
    · rename_i c _ _ _ _ _
      cases (c == Value.type "enumerate")
      · wp_walk using wpAny_loadPart' hl, wpAny_pyIter_tuple hL
        exact ⟨_, rfl, h⟩
      · wp_walk using wpAny_loadPart' hl, wpAny_pyIter_tuple hL
        exact ⟨_, rfl, h⟩
    · wp_walk using wpAny_loadPart' hl, wpAny_pyIter_tuple hL
      exact ⟨_, rfl, h⟩
section
variable {prog : Program} {w : World} {A : Around} {E : Value → Shared → Prop} {s : Shared}
theorem call_enumerate_tuple {l : Addr} {items : Array Value} {Q : Value → Shared → Prop} (hL : s.heap.IsTuple l items)
    (h : ∀ h', IsEnum h' (s.heap.objs.size + 1) s.heap.objs.size 0 .none → h'.IsTupleIter s.heap.objs.size l 0 → h'.objs.size = s.heap.objs.size + 2 →
      (∀ b o, s.heap.get? b = some o → h'.get? b = some o) → Q (.ref (s.heap.objs.size + 1)) { s with heap := h' }) :
    wpAny (model prog w) A (call (.type "enumerate") [.ref l]) Q E s := by
  obtain ⟨⟨c, dct, dt, sl⟩, hl, hc, n, hd⟩ := hL
  replace hc : c = .type "tuple" := hc
  replace hd : dt = .seq items n := hd
  subst hc hd
  refine callType_new F.called_enumerate (by decide) (F.typeCall_enumerate_1 _) (F.newCall_enumerate_1 _) (fun obj => F.args_object_init_2 obj _) F.entry_enumerate_new
    (meets_enumerate_newT l items n dct sl) ⟨hl, ?_⟩
  have hz : (s.heap.push { cls := .type "tuple_iterator", data := .fields #[.ref l, .int 0 0] }).objs.size = s.heap.objs.size + 1 := Heap.size_push ..
  show _ ∧ _
  rw [hz]
  have he : IsEnum ((s.heap.push { cls := .type "tuple_iterator", data := .fields #[.ref l, .int 0 0] }).push
      { cls := .type "enumerate", data := .fields #[.none, .bool false, .ref s.heap.objs.size, rawInt 0, .none, .none] }) (s.heap.objs.size + 1) s.heap.objs.size 0 .none := by
    have := Heap.get?_push_size (s.heap.push { cls := .type "tuple_iterator", data := .fields #[.ref l, .int 0 0] })
      (o := { cls := .type "enumerate", data := .fields #[.none, .bool false, .ref s.heap.objs.size, rawInt 0, .none, .none] }) rfl
    rw [hz] at this; exact this
  refine ⟨⟨_, he, rfl⟩, h _ he ⟨_, Heap.get?_push_of_some _ (Heap.get?_push_size _ rfl), rfl, rfl⟩ (by rw [Heap.size_push, hz]) fun b o x => Heap.get?_push_of_some _ (Heap.get?_push_of_some _ x)⟩
end
end PySem
namespace Dg
open PySem PySem.Spec PyProof.Rows L2
def IteT (K : PySem.W.Frag) (a : Addr) : It :=
  ⟨fun i H => ∃ (xs : List V) (x : V), SqT K H a xs ∧ xs[i]? = some x, fun i H v H' => ∃ T x, v = .ref T ∧ H T = none ∧ H' = upd H T (.tup [.int (i : Nat), x]) ∧ ∀ xs, SqT K H a xs → xs[i]? = some x, fun i H => ∃ xs : List V, SqT K H a xs ∧ xs.length ≤ i⟩
theorem turn_enumT {P : Program} {w : World} {K : PySem.W.Frag} {elts : List Expr} {kk : Nat} {tpos : Pos} {a e it : Addr} (hne : e ≠ it) (hea : e ≠ a) (hai : a ≠ it) :
    Turn P w K (.Tuple elts kk tpos) (IteT K a) [e, it] e (fun i h => (∃ old, IsEnum h e it ((i : Nat) : Int) old) ∧ h.IsTupleIter it a i) where
  mem := by simp
  obj := fun i h st b hb => by
    obtain ⟨⟨old, he⟩, ⟨o, ho, hc, hd⟩⟩ := st
    have e' : b = e ∨ b = it := by simpa using hb
    rcases e' with z | z
    · rw [z]; exact ⟨_, he, fun v q => nomatch q⟩
    · rw [z]; exact ⟨o, ho, fun v q => by rw [hd] at q; cases q⟩
  keep := fun i h h' st k => let ⟨⟨old, he⟩, hi⟩ := st; ⟨⟨old, k e (by simp) _ he⟩, hi.at fun o q => k it (by simp) o q⟩
  item := by
    intro X hP hw hK hc i pins s σ H E I hf st hg
    subst hP hw hK
    obtain ⟨⟨old, he⟩, hit⟩ := st
    obtain ⟨xs, x, hq, hx⟩ := hg
    obtain ⟨its, rv, p, hz⟩ := I.tuple hq
    obtain ⟨u, hu, ru⟩ := rv.get hx
    have hel : e < s.heap.objs.size := Heap.lt_size he
    have hil : it < s.heap.objs.size := by obtain ⟨_, q, _⟩ := id hit; exact Heap.lt_size q
    have lu : i < its.toArray.size := by simpa using (List.getElem?_eq_some_iff.mp hu).1
    have hh : X.A.in1.handled = none := I.ok.hd hc
    obtain ⟨m1, P1, S1, D1, _, _, l1, b1, c1, e1⟩ := drT (P := X.prog) (w := X.w) hh hai its.toArray i
    refine wpAny_pyNext_enum_itemC D1 he (b1 _ hit p) (l1 lu) hne (by simp [hne, hea]) fun u' h' tk hP ho k1 hT hsz hk => ?_
    have ex1 : u' = u := by
      have := c1 _ hP
      simp only [List.getElem?_toArray, hu] at this
      cases this; rfl
    subst ex1
    refine ⟨_, rfl, wpAny_letOwnedTupleGo_enum (s := { s with heap := h', toks := tk + 1 }) ho fun h'' he' sb => ?_⟩
    have hT2 : h''.get? s.heap.objs.size = some { cls := .type "tuple", data := .seq #[.int i tk, u'] } := (sb.2 _ (Nat.ne_of_gt hel)).trans hT
    have new : ObjOk X.prog X.w (upd H s.heap.objs.size (.tup [.int (i : Nat), x])) h'' s.heap.objs.size (.tup [.int (i : Nat), x]) :=
      ⟨by show 2 ≤ sizeLine; decide, [.int i tk, u'], .cons ⟨_, rfl⟩ (.cons ru .nil), ⟨_, hT2, rfl, _, rfl⟩⟩
    have I1 : Inv X pins σ (upd H s.heap.objs.size (.tup [.int (i : Nat), x])) { s with heap := h'', toks := tk + 1 } :=
      I.turnedNew (ch := [e, it]) (fun b ob hb q => (sb.2 b (fun z => hb (by simp [z]))).trans (hk b ob (fun z => hb (by simp [z])) (fun z => hb (by simp [z])) q)) hf (Nat.le_refl _) new
    refine ⟨.ref s.heap.objs.size, _, I1, rfl, ⟨_, x, rfl, I.hok.fresh (Nat.le_refl _), rfl, fun ys hy => by rw [I.tuple_inj hy hq]; exact hx⟩, ⟨⟨u', ?_⟩, (e1 _ lu k1).at fun o q => (sb.2 it (Ne.symm hne)).trans q⟩, fun b hb => ?_⟩
    · have e1 : ((i + 1 : Nat) : Int) = (i : Int) + 1 := by omega
      rw [e1]; exact he'
    · have hb' : b < s.heap.objs.size := by
        have e' : b = e ∨ b = it := by simpa using hb
        rcases e' with z | z
        · rw [z]; exact hel
        · rw [z]; exact hil
      rw [upd_ne (Nat.ne_of_lt hb')]
      exact (hf b hb).1
  done := by
    intro X hP hw hK hc i pins s σ H E I hf st hg
    subst hP hw hK
    obtain ⟨⟨old, he⟩, hit⟩ := st
    obtain ⟨xs, hq, hx⟩ := hg
    obtain ⟨its, rv, p, hz⟩ := I.tuple hq
    obtain ⟨f0, f1, f2, f3, f4, f5⟩ := hf it (by simp)
    have hl := rv.length
    have hh : X.A.in1.handled = none := I.ok.hd hc
    obtain ⟨m1, P1, S1, D1, a1, g1, _, b1, _⟩ := drT (P := X.prog) (w := X.w) hh hai its.toArray i
    have hs := b1 _ hit p
    rw [g1 (by simp; omega)] at hs
    exact wpAny_pyNext_enum_endD D1 he hs fun h' eb => ⟨rfl, I.turned (t' := s.toks) (fun b o hb q => eb b o hb q) f0 f1 f3 f4 f5⟩
  self := fun A i s Q E st h => let ⟨⟨_, he⟩, _⟩ := st; wpAny_pyIter_enum he h
def iEnumT (K : PySem.W.Frag) (ta : TA) : TI := fun σ H R => ta σ H fun vs H1 => ∃ a, vs = [.ref a] ∧ (((∃ xs, SqL K H1 a xs) ∧ R (Ite K a) H1) ∨ (∃ xs, SqT K H1 a xs) ∧ R (IteT K a) H1)
theorem pi_enumT {X : Cx} {e : Expr} {ta : TA} {p pos tpos : Pos} {elts : List Expr} {kk : Nat} (hg : Gl X "enumerate") (hm : X.mg "enumerate" = none) (ha : PA X [e] ta) (hs : starEach [e] X.env = [(false, eval e X.env)] := by rfl) :
    PI X (.Tuple elts kk tpos) (.Call (.Name "enumerate" p) [e] [] pos) (iEnumT X.K ta) := by
  refine ⟨fun pins s σ H R I h => ?_⟩
  refine Call_ (ld_blt I hg hm boot_enumerate (PyProof.Rows.callWith_type1 (thn (ha.run pos pins s σ H _ I h) fun us s1 ⟨vs, H1, I1, r1, q1⟩ => ?_) hs rfl))
  obtain ⟨a, ex, q⟩ := q1
  subst ex
  cases r1 with
  | cons r rr =>
    cases rr
    cases r
    rcases q with ⟨⟨xs, hq⟩, q⟩ | ⟨⟨xs, hq⟩, q⟩
    · obtain ⟨its, rv, p', hz⟩ := I1.list hq
      refine call_enumerate_list p'.isList fun h' he hit hsz hk => wpAny_pyIter_enum he ?_
      have I2 : Inv X pins σ H1 { s1 with heap := h' } := I1.kept (t' := s1.toks) hk
      refine ⟨s1.heap.objs.size + 1, [s1.heap.objs.size + 1, s1.heap.objs.size], _, _, H1, rfl, I2, turn_enum a (s1.heap.objs.size + 1) s1.heap.objs.size, ⟨⟨.none, he⟩, hit, Nat.succ_ne_self _⟩, fun b hb => ?_, q⟩
      have e' : b = s1.heap.objs.size + 1 ∨ b = s1.heap.objs.size := by simpa using hb
      have hle : s1.heap.objs.size ≤ b := by
        rcases e' with z | z
        · rw [z]; exact Nat.le_add_right _ _
        · rw [z]; exact Nat.le_refl _
      exact I1.fpOk hle (I1.hok.fresh hle)
    · obtain ⟨its, rv, p', hz⟩ := I1.tuple hq
      have la : a < s1.heap.objs.size := by obtain ⟨o, e, _⟩ := id p'; exact Heap.lt_size e
      refine call_enumerate_tuple p' fun h' he hit hsz hk => wpAny_pyIter_enum he ?_
      have I2 : Inv X pins σ H1 { s1 with heap := h' } := I1.kept (t' := s1.toks) hk
      refine ⟨s1.heap.objs.size + 1, [s1.heap.objs.size + 1, s1.heap.objs.size], _, _, H1, rfl, I2, turn_enumT (Nat.succ_ne_self _) (Nat.ne_of_gt (Nat.lt_succ_of_lt la)) (Nat.ne_of_lt la), ⟨⟨.none, he⟩, hit⟩, fun b hb => ?_, q⟩
      have e' : b = s1.heap.objs.size + 1 ∨ b = s1.heap.objs.size := by simpa using hb
      have hle : s1.heap.objs.size ≤ b := by
        rcases e' with z | z
        · rw [z]; exact Nat.le_add_right _ _
        · rw [z]; exact Nat.le_refl _
      exact I1.fpOk hle (I1.hok.fresh hle)
def enumL (us : List U) : List U := us.zipIdx.map fun p => .tup [.int (p.2 : Nat), p.1]
theorem it_enumT {K : PySem.W.Frag} {H : Hp} {ρ : List Addr} {a : Addr} {us : List U} {vs : List V} (hs : SqT K H a vs) (hr : RepVs K H ρ us vs) : ItOk K ρ H (.seq (enumL us)) (IteT K a) := by
  intro i ρ' H' μ' ex tx hm
  have hs' := tx.seq hs
  have hr' := hr.mono tx ex
  have e0 : (enumL us)[i]? = (us[i]?).map fun u => U.tup [.int (i : Nat), u] := by
    unfold enumL
    rw [List.getElem?_map, List.getElem?_zipIdx, Option.map_map, Nat.zero_add]
    rfl
  simp only [itemAt, e0]
  cases h : us[i]? with
  | none =>
    simp only [Option.map_none]
    exact ⟨vs, hs', by rw [← RepVs.length hr']; exact List.getElem?_eq_none_iff.mp h⟩
  | some u =>
    simp only [Option.map_some]
    obtain ⟨x, hx, rx⟩ := RepVs.get hr' h
    refine ⟨⟨vs, x, hs', hx⟩, ?_⟩
    rintro y H'' ⟨T, x', rfl, nT, rfl, hall⟩
    have e2 := hall vs hs'
    rw [hx] at e2
    cases e2
    exact ⟨Stp.temp hm nT, newT nT (.cons .int (.one rx))⟩
section
variable {X : Cx} {W : WX}
/-- enumerate(list or tuple) -/
def iEnumA (a : FE) : FI := fun s μ => (a s μ).bind fun u μ1 => match u with
  | .tup us => .ok (.seq (enumL us)) μ1
  | .ref r => match listAt μ1 r with
    | some _ => .ok (.enum r) μ1
    | none => .bad
  | _ => .bad
theorem ci_enumA {tg a : Expr} {ma : FE} {p pos : Pos} (ha : CE X W a ma)
    (hp : ∀ {ta : TA}, PA X [a] ta → PI X tg (.Call (.Name "enumerate" p) [a] [] pos) (iEnumT X.K ta)) (hs1 : starEach [a] X.env = (false, eval a X.env) :: starEach [] X.env := by rfl) :
    CI X W tg (.Call (.Name "enumerate" p) [a] [] pos) (iEnumA ma) := by
  intro ρ μ s σ H R hs hm h
  refine ⟨_, hp (pa_cons pe_w pa_nil hs1), ?_⟩
  refine ha ρ μ s σ H _ hs hm (h.bind fun u μ1 x H1 ρ1 t1 r1 h1 => ?_)
  split at h1
  · cases r1 with
    | tup b1 b2 => exact ⟨_, rfl, .inr ⟨⟨_, b1⟩, h1.ok (Stp.refl t1.mem) (it_enumT b1 b2)⟩⟩
  · cases r1 with
    | ref b1 =>
      split at h1
      · rename_i e2
        obtain ⟨xs, q2, _⟩ := listAt_ok t1.mem b1 e2
        exact ⟨_, rfl, .inl ⟨⟨_, q2⟩, h1.ok (Stp.refl t1.mem) (it_enum b1)⟩⟩
      · exact h1.elim
  · exact h1.elim
end
end Dg
/-! Eg: zip of a list and a tuple; a, *b = a list. -/
namespace PySem
section
variable {prog : Program} {w : World} {A : Around} {E : Value → Shared → Prop} {s : Shared}
end
end PySem
namespace Dg
open PySem PySem.Spec PyProof.Rows L2 RZ
section
variable {P : Program} {w : World} {A : Around}
end
section
variable {X : Cx} {W : WX}
end
section
variable {X : Cx} {W : WX}
end
end Dg
/-! Sx: len(set(xs)), xs a list of any texts. -/
namespace Sx
open PySem PySem.Spec PyProof.Rows
/-- texts, each once, in the order in which they were met -/
def addS (acc : List Str) (x : Str) : List Str := if x ∈ acc then acc else acc ++ [x]
def metS (xs : List Str) : List Str := xs.foldl addS []
theorem metS_snoc {xs : List Str} {x : Str} : metS (xs ++ [x]) = addS (metS xs) x := by
  unfold metS
  rw [List.foldl_append]
  rfl
theorem metS_le : ∀ (xs acc : List Str), (xs.foldl addS acc).length ≤ acc.length + xs.length
  | [], acc => Nat.le_refl _
  | x :: xs, acc => by
    have h := metS_le xs (addS acc x)
    have : (addS acc x).length ≤ acc.length + 1 := by
      unfold addS
      split <;> simp
    rw [List.foldl_cons, List.length_cons]
    omega
theorem metS_len (xs : List Str) : (metS xs).length ≤ xs.length := by
  have := metS_le xs []
  simpa [metS] using this
/-- the set at S has met the first i texts -/
def Has (P : Program) (w : World) (h : Heap) (S : Addr) (xs : List Str) (i : Nat) : Prop :=
  h.SetOf (PySem.strKind P w) S (fun k => decide (k ∈ metS (xs.take i))) (metS (xs.take i)).length
section
variable {P : Program} {w : World} {A : Around}
theorem has_keep {h h' : Heap} {S : Addr} {xs : List Str} {i : Nat} (H : Has P w h S xs i) (k : ∀ o, h.get? S = some o → h'.get? S = some o) : Has P w h' S xs i := by
  obtain ⟨o, es, ep, t, ho, r⟩ := H
  exact ⟨o, es, ep, t, k o ho, r⟩
/-- one more text -/
theorem has_add {E : Value → Shared → Prop} {s : Shared} {S : Addr} {xs : List Str} {i t : Nat} {Q : Shared → Prop} (H : Has P w s.heap S xs i) (hi : i < xs.length) (hb : xs.length < 1000)
    (q : ∀ h' tk, s.toks ≤ tk → Heap.SameBut S s.heap h' → Has P w h' S xs (i + 1) → Q { s with heap := h', toks := tk }) :
    wpAny (model P w) A (setAdd S (.str xs[i] t)) (fun _ s' => Q s') E s := by
  have hm := metS_len (xs.take i)
  rw [List.length_take] at hm
  unfold setAdd
  refine wpAny_holding ?_
  refine wpAny_bind ((PySem.strKind P w).pyHash (k := xs[i]) (strKind_is _ _ _ _) ?_)
  refine wpAny_setAddHashed_of (knd := PySem.strKind P w) (s := { s with toks := s.toks + 1 }) (strKind_is _ _ _ _) rfl H (by unfold scanBound; omega) fun h' hsb h2 => ?_
  refine q h' _ (Nat.le_succ _) hsb (SetOf_congr h2 (fun k => ?_) ?_)
  · have e : xs.take (i + 1) = xs.take i ++ [xs[i]] := by rw [List.take_add_one, List.getElem?_eq_getElem hi]; rfl
    rw [e, metS_snoc]
    unfold addS
    split
    · rename_i hx
      by_cases ek : k = xs[i]
      · rw [ek]; simp [hx]
      · simp [ek]
    · simp [List.mem_append, Bool.decide_or]
  · have e : xs.take (i + 1) = xs.take i ++ [xs[i]] := by rw [List.take_add_one, List.getElem?_eq_getElem hi]; rfl
    rw [e, metS_snoc]
    unfold addS
    by_cases hx : xs[i] ∈ metS (xs.take i)
    · simp [hx]
    · simp [hx]
/-- the rest of the walk -/
theorem rest_walk {R : Result → Shared → Prop} {I S : Addr} {fp wr : List Addr} {G : Array GenState → Array GenState → Prop} {PV : Nat → Value → Prop} {St : Nat → Shared → Prop} {xs : List Str}
    (W : WalksS P w A.in1 I fp wr G xs.length PV St) (hS : S ∉ fp) (hb : xs.length < 1000) (hv : ∀ i (h : i < xs.length) v, PV i v → ∃ t, v = .str xs[i] t) (left : Nat) :
    ∀ {i : Nat} {s : Shared}, i + left = xs.length → St i s → Has P w s.heap S xs i →
      (∀ s', Moved (S :: wr) G s s' → Has P w s'.heap S xs xs.length → R (.ok (.ret .none)) s') → codeAny (model P w) A (.builtin "set.update.loop" ⟨[.ref S, .ref I], []⟩) R s := by
  have notW : S ∉ wr := fun h => hS (W.sub S h)
  have more : ∀ {s s' : Shared}, Moved wr G s s' → Moved (S :: wr) G s s' := fun m => m.mono fun b hb => List.mem_cons_of_mem S hb
  have stay : ∀ {i : Nat} {s s' : Shared}, Moved wr G s s' → Has P w s.heap S xs i → Has P w s'.heap S xs i := fun m H => has_keep H fun o e => m.heap S o notW e
  induction left with
  | zero =>
    intro i s e st H q
    obtain rfl : i = xs.length := e
    refine codeAny_builtin PyProof.Rows.F.entry_set_update_loop ?_
    rw [Around.under_plainId PyProof.Rows.F.plain_set_update_loop _]
    show wpAny _ A.in1 (pyNext (.ref I) >>= _) _ _ s
    refine wpAny_bind (W.done s _ _ st fun s1 m => ?_)
    show wpAny _ A.in1 (ret Value.none) _ _ s1
    exact wpAny_pure (q s1 (more m) (stay m H))
  | succ left ih =>
    intro i s e st H q
    have hi : i < xs.length := by omega
    refine codeAny_builtin PyProof.Rows.F.entry_set_update_loop ?_
    rw [Around.under_plainId PyProof.Rows.F.plain_set_update_loop _]
    show wpAny _ A.in1 (pyNext (.ref I) >>= _) _ _ s
    refine wpAny_bind (W.item i s _ _ hi st fun v s1 pv st1 m => ?_)
    obtain ⟨t, rfl⟩ := hv i hi v pv
    show wpAny _ A.in1 (holding [Value.str xs[i] t] (setAdd S (.str xs[i] t)) >>= _) _ _ s1
    refine wpAny_bind (wpAny_holding ?_)
    refine has_add (A := A.in1) (stay m H) hi hb fun h2 tk le sb H2 => ?_
    have other : ∀ b o, b ≠ S → s1.heap.get? b = some o → h2.get? b = some o := fun b o ne g => (sb.2 b ne).trans g
    refine wpAny_pure ⟨plainId_quiet PyProof.Rows.F.plain_set_update_loop _, ih (by omega) (W.frame _ s1 _ _ st1 le fun b hb o g => other b o (fun e => hS (e ▸ hb)) g) H2 fun s3 m3 H3 => q s3 ?_ H3⟩
    refine Moved.trans W.gtrans ((more m).then_heap le fun b o hb g => other b o (fun e => hb (e ▸ List.mem_cons_self)) g) m3
/-- the empty set, as it is made -/
abbrev newSet (led : Bool) : Obj := { cls := .type "set", dict := none, data := .set #[] 0 (.fresh 0 0 led) }
theorem strs_get {us : List Value} {xs : List Str} (r : StrsAre us xs) (hl : us.length = xs.length) : ∀ i (h : i < xs.length) v, us[i]? = some v → ∃ t, v = .str xs[i] t := by
  intro i h v e
  obtain ⟨t, e2⟩ := SS.strs_at r i v e
  exact ⟨t, by rw [e2, List.getD_eq_getElem?_getD, List.getElem?_eq_getElem h]; rfl⟩
set_option maxHeartbeats 3200000 in
/-- set(xs) of a list of texts -/
theorem set_list {E : Value → Shared → Prop} {s : Shared} {l : Addr} {items : Array Value} {xs : List Str} {Q : Value → Shared → Prop}
    (hn : A.handled = none) (hl : s.heap.IsList l items) (hi : StrsAre items.toList xs) (hb : xs.length < 1000)
    (q : ∀ (h' : Heap) (tk : Nat), Has P w h' s.heap.objs.size xs xs.length → (∀ b o, b < s.heap.objs.size → s.heap.get? b = some o → h'.get? b = some o) → Q (.ref s.heap.objs.size) { s with heap := h', toks := tk }) :
    wpAny (model P w) A (call (.type "set") [.ref l]) Q E s := by
  have sz : xs.length = items.size := by rw [← StrsAre.len_eq hi, Array.length_toList]
  obtain ⟨c, tl, hmro⟩ := PySem.F.called_set.mro
  have hmade := PySem.F.called_set.made
  have hsub := PySem.F.called_set.sub
  have h1 := PySem.F.called_set.notType
  have h2 := PySem.F.called_set.canCreate
  have hct := PySem.F.typeCall_set_1 (.ref l)
  refine wpAny_call (codeAny_of_tree ?_)
  show wpAny _ _ (callAny (.type "set") _) _ _ _
  refine wpAny_pure ⟨Code.quiet_builtin _ (by decide +kernel), codeAny_builtin PySem.F.entry_type_call ?_⟩
  rw [Around.under_plain (weight_type_call_type "set" [.ref l] []) rfl]
  repeat (any_goals (first | assumption | wp_step))
  refine codeAny_mono (code_set_new_1 (.ref l) (E := E) (Q₁ := fun o s1 => ∃ led, o = .ref s.heap.objs.size ∧ s1 = { s with heap := s.heap.push (newSet led) }) fun led => ⟨led, rfl, rfl⟩) fun r s1 hr => ?_
  rcases r with e | (_ | _ | _ | ob) <;> first | exact hr | exact hr.elim | skip
  · obtain ⟨led, rfl, rfl⟩ := hr
    have atS : (s.heap.push (newSet led)).get? s.heap.objs.size = some (newSet led) := Heap.get?_push_size _ rfl
    have isS : Shared.TypeIs { s with heap := s.heap.push (newSet led) } (.ref s.heap.objs.size) "set" := ⟨_, atS, rfl⟩
    have hli := PySem.F.called_set.init.lookup
    have hbi := PySem.F.called_set.init.bind (.ref s.heap.objs.size)
    repeat (any_goals (first | assumption | wp_step))
    refine codeAny_mono (codeAny_call_builtin (R := wants (fun r s2 => r = .none ∧ ∃ h' tk, s2 = { s with heap := h', toks := tk } ∧ Has P w h' s.heap.objs.size xs xs.length ∧
        (∀ b o, b < s.heap.objs.size → s.heap.get? b = some o → h'.get? b = some o)) E) PySem.F.called_set.init.plain PySem.F.entry_set_init (check_set_init_1 isS ?_)) fun r2 s2 hr2 => ?_
    · obtain ⟨⟨oc, od, ox, os⟩, ho, hc, nl, hd⟩ := hl
      simp only at hc hd
      subst hc
      subst hd
      have ho2 := Heap.get?_push_of_some (newSet led) ho
      have isL : (s.heap.push (newSet led)).IsList l items := ⟨_, ho2, rfl, nl, rfl⟩
      have sub1 := PySem.F.sub_list_set
      have sub2 := PySem.F.sub_list_frozenset
      have nd : (Value.type "list" == Value.type "dict") = false := by decide
      have lt : l < s.heap.objs.size := Heap.lt_size ho
      have an : A.in1.in1.in1.handled = none := by simp [hn]
      have up : (s.heap.push (newSet led)).objs.size = s.heap.objs.size + 1 := Heap.size_push ..
      unfold Builtin.«set.__init__» noKeywords Builtin.Frozenset.updateFrom
      generalize hPI : pyIter = PI
      wp_walk
      subst hPI
      refine wpAny_pyIter_list isL ?_
      refine wpAny_bind (wpAny_runValue ?_)
      have wk := (Walks.list an _ l (show l ≠ (s.heap.push (newSet led)).objs.size from fun e => Nat.lt_irrefl (s.heap.objs.size + 1) (Nat.lt_succ_of_lt (up ▸ e ▸ lt))) items (prog := P) (w := w)).toS
      rw [← sz] at wk
      refine rest_walk wk (by
        simp only [List.mem_cons, List.not_mem_nil, or_false]
        rintro (e | e)
        · rw [up] at e; exact absurd e (Nat.ne_of_lt (Nat.lt_succ_self _))
        · exact absurd e (Nat.ne_of_gt lt)) hb (fun i h v e => strs_get hi (by rw [Array.length_toList, sz]) i h v (by rw [Array.getElem?_toList]; exact e)) xs.length (Nat.zero_add _) ⟨⟨_, Heap.get?_push_size _ rfl, rfl, rfl⟩, isL.push _⟩ ?_ ?_
      · exact SetOf_congr ((setObjOf_fresh (knd := PySem.strKind P w) led).setOf (Heap.get?_push_of_some _ atS) (by unfold scanBound; omega)) (fun _ => rfl) rfl
      · rintro ⟨h', g', d', tk', os'⟩ m H
        obtain ⟨eg, ed, eo⟩ : g' = s.gens ∧ d' = s.drawn ∧ os' = s.os := ⟨m.gens, m.drawn, m.os⟩
        subst eg
        subst ed
        subst eo
        show wpAny _ _ _ _ _ _
        refine wpAny_pure ?_
        show wpAny _ _ (ret Value.none) _ _ _
        refine wpAny_pure ⟨rfl, h', tk', rfl, H, fun b o hb e => m.heap b o ?_ (Heap.get?_push_of_some _ (Heap.get?_push_of_some _ e))⟩
        simp only [List.mem_cons, List.not_mem_nil, or_false]
        rintro (e | e)
        · exact absurd e (Nat.ne_of_lt hb)
        · rw [up] at e; exact absurd e (Nat.ne_of_lt (Nat.lt_succ_of_lt hb))
    · rcases r2 with e | (_ | _ | _ | ob) <;> first | exact hr2 | exact hr2.elim | skip
      · obtain ⟨rfl, h', tk, rfl, H, keep⟩ := hr2
        repeat (any_goals (first | assumption | wp_step))
        exact q _ _ H keep
end
end Sx
/-! Sy: the rule of len(set(xs)). -/
namespace Dg
open PySem PySem.Spec PyProof.Rows L2 RZ
section
variable {X : Cx} {W : WX}
end
end Dg
namespace Dg
open PySem PySem.Spec PyProof.Rows L2 RZ
section
variable {prog : Program} {w : World} {K : Type} [DecidableEq K] {knd : KeyKind prog w K} {A : Around} {E : Value → Shared → Prop} {s : Shared}
end
section
variable {X : Cx} {W : WX}
end
section
variable {X : Cx} {W : WX}
end
end Dg
/-! Sz: set comprehensions of texts, sorted. -/
namespace Sz
open PySem PySem.Spec PyProof.Rows L2 Sx
def textOf (e : Int × Value) : Str := match e.2 with
  | .str x _ => x
  | _ => Str.empty
/-- the texts xs stand in the set at a, whose table rises -/
def TSet (P : Program) (w : World) (h : Heap) (a : Addr) (xs : List Str) : Prop :=
  ∃ o es ep t, h.get? a = some o ∧ o.ExactSet ∧ o.data = .set es ep t ∧ ElemsOf (PySem.strKind P w) es.toList ∧ (es.toList.map textOf).Perm xs ∧ xs.Nodup ∧ es.size < scanBound ∧ t.fits es.size = true ∧ Ris t.place.toList ∧
    (w.params.followText "set-order" = true ∨ t.led = true)
section
variable {P : Program} {w : World} {h h' : Heap} {a : Addr} {xs : List Str}
theorem TSet.keep (T : TSet P w h a xs) (k : ∀ o, h.get? a = some o → h'.get? a = some o) : TSet P w h' a xs := by
  obtain ⟨o, es, ep, t, here, more⟩ := T
  exact ⟨o, es, ep, t, k o here, more⟩
end
section
variable {P : Program} {w : World} {A : Around} {E : Value → Shared → Prop} {s : Shared} {a : Addr} {xs : List Str}
end
def TSO (P : Program) (w : World) (a : Addr) (xs : List Str) : HO := .ext fun h => TSet P w h a xs
section
variable {X : Cx}
end
end Sz
/-! Sz2: sorted({text for ..}): the rule, the mirror. -/
namespace Sz
open PySem PySem.Spec PyProof.Rows L2 Sx PpSet
section
variable {X : Cx}
/-- the set of texts at a, that nobody changes meanwhile -/
def TL (P : Program) (w : World) (H : Hp) (a : Addr) (xs : List Str) : Prop := ∃ od, H a = some (.frz od (TSO P w a xs))
end
end Sz
/-! Sz3: sorted({text for ..}): the mirror. -/
namespace Dg
open PySem PySem.Spec PyProof.Rows L2 Sx Sz
/-- what stood before D came does not mind D -/
theorem TX.side {H H' : Hp} {d : Addr} {o : HO} (n : H d = none) (t : TX H H') : TX H (upd H' d o) := ⟨fun a xs r => by
  have ne : a ≠ d := fun e => by
    rcases r with r | ⟨z, r⟩ <;> rw [e, n] at r <;> cases r
  rcases t.1 a xs r with r | ⟨z, r⟩
  · exact .inl (by rw [upd_ne ne]; exact r)
  · exact .inr ⟨z, by rw [upd_ne ne]; exact r⟩, fun a z w r => by
  have ne : a ≠ d := fun e => by rw [e, n] at r; cases r
  rw [upd_ne ne]
  exact t.2 a z w r⟩
section
variable {X : Cx} {W W0 : WX} {k : Nat}
end
end Dg
/-! Dr: for i, (a, b, ..) in .. -/
namespace Dg
open PySem PySem.Spec PyProof.Rows L2
section
variable {X : Cx} {W : WX} {k : Nat}
end
end Dg
/-! Ra: methods without arguments, o.f += e, del xs[i:], calls through a table of defs, (a, b), (c, d) as a target. -/
namespace Dg
open PySem PySem.Spec PyProof.Rows L2 RZ
section
variable {prog : Program} {w : World} {A : Around} {E : Value → Shared → Prop} {s : Shared}
end
section
variable {X : Cx} {W : WX} {k : Nat}
/-! ### a table of defs -/
/-- what is known of the defs of a table -/
def Disp (X : Cx) (ad : Nat → Addr) (k n : Nat) (C : Nat → List U → Mem → Res U) : List (Str × Nat) → Prop
  | [] => True
  | (_, j) :: r => (∃ fd ps, FnD X.prog X.w X.K X.mg X.base (L2.CX X.prog X.w) k (ad j) fd ps (spF X.K X.mg n (C j)) ∧ PySem.W.keepIn X.K (.ref (ad j)) = true ∧ Binds X.K fd ps [] ∧ ps.length = n) ∧ Disp X ad k n C r
theorem Disp.get {ad : Nat → Addr} {k n : Nat} {C : Nat → List U → Mem → Res U} : ∀ {tab : List (Str × Nat)} {z : Str} {j : Nat}, Disp X ad k n C tab → tab.lookup z = some j → ∃ fd ps, FnD X.prog X.w X.K X.mg X.base (L2.CX X.prog X.w) k (ad j) fd ps (spF X.K X.mg n (C j)) ∧ PySem.W.keepIn X.K (.ref (ad j)) = true ∧ Binds X.K fd ps [] ∧ ps.length = n
  | [], _, _, _, h => by cases h
  | (y, i) :: r, z, j, d, h => by
    rw [List.lookup_cons] at h
    split at h
    · cases h; exact d.1
    · exact Disp.get d.2 h
end
end Dg
/-! Dnk: dicts whose keys are pairs of a tuple of ints and an int. -/
namespace Dg
open PySem PySem.Spec PyProof.Rows L2
section
variable {P : Program} {w : World}
def nIs (P : Program) (w : World) (h : Heap) (k : List Int) (b : Addr) : Prop := ∃ ks i o n c t, k = ks ++ [i] ∧ h.get? b = some o ∧ o.cls = .type "tuple" ∧ o.data = .seq #[.ref c, .int i t] n ∧ IsTupleKey (intKind P w) h ks c
theorem nIs.inj {h : Heap} {b : Addr} {x y : List Int} (hx : nIs P w h x b) (hy : nIs P w h y b) : x = y := by
  obtain ⟨ks, i, o, n, c, t, rfl, e, _, d, q⟩ := hx
  obtain ⟨ks', i', o', n', c', t', rfl, e', _, d', q'⟩ := hy
  obtain rfl : o = o' := Option.some.inj (e.symm.trans e')
  rw [d] at d'
  injection d' with h1 _
  simp only [Array.mk.injEq, List.cons.injEq, Value.ref.injEq, Value.int.injEq, and_true] at h1
  obtain ⟨rfl, rfl, _⟩ := h1
  rw [q.inj q']
theorem nIs.keeps {h h' : Heap} {k : List Int} {b d : Addr} {o : Obj} {es ep} (x : nIs P w h k b) (ho : h.get? d = some o) (hd : o.data = .dict es ep) (hs : Heap.SameBut d h h') : nIs P w h' k b := by
  obtain ⟨ks, i, o', n, c, t, e, e1, e2, e3, q⟩ := x
  have hne : b ≠ d := by
    rintro rfl
    obtain rfl : o' = o := Option.some.inj (e1.symm.trans ho)
    rw [hd] at e3; exact nomatch e3
  exact ⟨ks, i, o', n, c, t, e, (hs.2 b hne).trans e1, e2, e3, q.keeps ho hd hs⟩
variable {A : Around} {E : Value → Shared → Prop} {s : Shared}
end
/-! ### the dict: in, not in, store, look up -/
section
variable {X : Cx} {pins : List (Addr × Obj)} {σ : L2.St} {H : Hp} {s : Shared} {a b : Addr} {A : Around} {E : Value → Shared → Prop} {xs : Ti} {ks : List Int}
end
inductive RepNi (K : PySem.W.Frag) (H : Hp) (ρ : List Addr) : KI → Ti → Prop
  | nil : RepNi K H ρ [] []
  | cons {k : List Int} {u : U} {b : Addr} {v : V} {kus : KI} {xs : Ti} : NyT K H b k → RepV K H ρ u v → RepNi K H ρ kus xs → RepNi K H ρ ((k, u) :: kus) ((k, b, v) :: xs)
section
variable {K : PySem.W.Frag} {H : Hp} {ρ : List Addr}
theorem RepNi.of : ∀ {kus : KI} {xs : Ti}, (∀ p ∈ xs, NyT K H p.2.1 p.1) → xs.map (·.1) = kus.map (·.1) → RepVs K H ρ (kus.map (·.2)) (xs.map (·.2.2)) → RepNi K H ρ kus xs
  | [], [], _, _, _ => .nil
  | [], _ :: _, _, e, _ => by simp at e
  | _ :: _, [], _, e, _ => by simp at e
  | (k, u) :: kus, (k', b, v) :: xs, h, e, r => by
    simp only [List.map_cons, List.cons.injEq] at e
    obtain ⟨rfl, e⟩ := e
    rw [List.map_cons, List.map_cons] at r
    cases r with
    | cons r1 r2 => exact .cons (h _ (List.mem_cons_self ..)) r1 (RepNi.of (fun p hp => h p (List.mem_cons_of_mem _ hp)) e r2)
theorem RepNi.to {kus : KI} {xs : Ti} (r : RepNi K H ρ kus xs) : (∀ p ∈ xs, NyT K H p.2.1 p.1) ∧ xs.map (·.1) = kus.map (·.1) ∧ RepVs K H ρ (kus.map (·.2)) (xs.map (·.2.2)) := by
  induction r with
  | nil => exact ⟨(fun _ h => nomatch h), rfl, .nil⟩
  | cons h r t ih =>
    refine ⟨fun p hp => ?_, by simp only [List.map_cons, ih.2.1], by rw [List.map_cons, List.map_cons]; exact .cons r ih.2.2⟩
    rcases List.mem_cons.mp hp with rfl | hp
    · exact h
    · exact ih.1 p hp
theorem RepNi.mono {H' : Hp} {ρ' : List Addr} {kus : KI} {xs : Ti} (t : TX H H') (e : Ext ρ ρ') (r : RepNi K H ρ kus xs) : RepNi K H' ρ' kus xs := by
  induction r with
  | nil => exact .nil
  | cons h r _ ih => exact .cons (h.tv t.tv) (r.mono t e) ih
theorem RepNi.len {kus : KI} {xs : Ti} (r : RepNi K H ρ kus xs) : xs.length = kus.length := by
  induction r with
  | nil => rfl
  | cons h r _ ih => simp [ih]
theorem RepNi.val {kus : KI} {xs : Ti} (r : RepNi K H ρ kus xs) (k : List Int) : (valUI kus k = none → valI xs k = none) ∧ ∀ u, valUI kus k = some u → ∃ v, valI xs k = some v ∧ RepV K H ρ u v := by
  induction r with
  | nil => exact ⟨fun _ => rfl, fun u e => by simp [valUI] at e⟩
  | @cons k' u b v kus xs h r t ih =>
    by_cases e : k' = k
    · refine ⟨fun q => by simp [valUI, e] at q, fun w q => ⟨v, by simp [valI, e], ?_⟩⟩
      simp [valUI, e] at q
      exact q ▸ r
    · have e1 : valUI ((k', u) :: kus) k = valUI kus k := by simp [valUI, e]
      have e2 : valI ((k', b, v) :: xs) k = valI xs k := by simp [valI, e]
      rw [e1, e2]; exact ih
theorem RepNi.isSome {kus : KI} {xs : Ti} (r : RepNi K H ρ kus xs) (k : List Int) : (valI xs k).isSome = (valUI kus k).isSome := by
  cases e : valUI kus k with
  | none => rw [(r.val k).1 e]; rfl
  | some u => obtain ⟨v, q, _⟩ := (r.val k).2 u e; rw [q]; rfl
theorem RepNi.any {kus : KI} {xs : Ti} (r : RepNi K H ρ kus xs) (k : List Int) : (xs.any fun x => decide (x.1 = k)) = (kus.any fun x => decide (x.1 = k)) := by
  induction r with
  | nil => rfl
  | cons h r t ih => simp [ih]
theorem RepNi.swap {k : List Int} {u : U} {v : V} (ru : RepV K H ρ u v) {kus : KI} {xs : Ti} (r : RepNi K H ρ kus xs) :
    RepNi K H ρ (kus.map fun x => if x.1 = k then (x.1, u) else x) (xs.map fun x => if x.1 = k then (x.1, x.2.1, v) else x) := by
  induction r with
  | nil => exact .nil
  | @cons k' u' b' v' kus xs h r t ih =>
    rw [List.map_cons, List.map_cons]
    by_cases e : k' = k
    · subst e
      simp only [if_true]
      exact .cons h ru ih
    · simp only [e, if_false]
      exact .cons h r ih
theorem RepNi.snoc {k : List Int} {b : Addr} {u : U} {v : V} (hb : NyT K H b k) (ru : RepV K H ρ u v) {kus : KI} {xs : Ti} (r : RepNi K H ρ kus xs) : RepNi K H ρ (kus ++ [(k, u)]) (xs ++ [(k, b, v)]) := by
  induction r with
  | nil => exact .cons hb ru .nil
  | cons h r t ih => exact .cons h r ih
theorem RepNi.put {kus : KI} {xs : Ti} (r : RepNi K H ρ kus xs) {k : List Int} {b : Addr} {u : U} {v : V} (hb : NyT K H b k) (ru : RepV K H ρ u v) : RepNi K H ρ (putUI kus k u) (putI xs k b v) := by
  unfold putUI putI
  rw [r.any k]
  split
  · exact r.swap ru
  · exact r.snoc hb ru
end
section
variable {X : Cx} {W : WX} {k : Nat}
end
end Dg
/-! Lz2: list(zip(a, b)) of a list and a tuple. -/
namespace Lz2
open PySem PySem.Spec PyProof.Rows L2 RZ PySem.W
open PySem.Sem (wp)
open Lz (Zo Ps Low Kp)
section
variable {prog : Program} {w : World} {A : Around} {E : Value → Shared → Prop} {s : Shared}
variable {z TI TO i1 i2 l1 l2 T : Addr} {f : Bool} {k : Nat} {xs ys : Array Value} {oT : Obj}
/-- the state of the zip before its item k: fresh, or the pair T is held -/
def Zs (h : Heap) (z TI TO i1 i2 l1 l2 S : Addr) (k : Nat) : Prop :=
  (IsZip h z TI TO .none ∨ ∃ T f oT, Zo h z TI TO T f ∧ h.get? T = some oT ∧ T ≠ z ∧ T ≠ TO ∧ T ≠ i1 ∧ T ≠ i2 ∧ T ≠ S) ∧ IsPair h TI (.ref i1) (.ref i2) ∧ (∃ a b, IsPair h TO a b) ∧ h.IsListIter i1 l1 k ∧ h.IsTupleIter i2 l2 k
theorem Zs.keep {h g : Heap} {S : Addr} (D : ZipApart z TI TO i1 i2 l1 l2) (x : Zs h z TI TO i1 i2 l1 l2 S k) (hz : z ≠ S) (hI : TI ≠ S) (hO : TO ≠ S) (h1 : i1 ≠ S) (h2 : i2 ≠ S)
    (up : ∀ c o, c ≠ S → h.get? c = some o → g.get? c = some o) : Zs g z TI TO i1 i2 l1 l2 S k := by
  obtain ⟨a, b, ⟨p, q, c⟩, d, e⟩ := x
  refine ⟨?_, up _ _ hI b, ⟨p, q, up _ _ hO c⟩, d.at fun o q => up _ o h1 q, e.at fun o q => up _ o h2 q⟩
  rcases a with a | ⟨T, f, o, a, t, n1, n2, n3, n4, n5⟩
  · exact .inl (up _ _ hz a)
  · exact .inr ⟨T, f, o, up _ _ hz a, up _ _ n5 t, n1, n2, n3, n4, n5⟩
end
section
variable {prog : Program} {w : World} {A : Around} {E : Value → Shared → Prop} {s : Shared}
variable {z TI TO i1 i2 l1 l2 S : Addr} {xs ys : Array Value} {R : Result → Shared → Prop}
end
section
variable {prog : Program} {w : World} {A : Around} {E : Value → Shared → Prop} {s : Shared}
variable {z TI TO i1 i2 l1 l2 S : Addr} {xs ys : Array Value} {R : Result → Shared → Prop}
end
end Lz2
namespace Dg
open PySem PySem.Spec PyProof.Rows L2 RZ PySem.W
section
variable {X : Cx} {W : WX} {k : Nat}
end
end Dg
/-! Dj: del d[k], d.setdefault(k, x), comprehensions of two fors, min(dict), list(dict), list.index of lists, enumerate of either. -/
namespace Dg
open PySem PySem.Spec PyProof.Rows L2 RZ
section
variable {X : Cx} {W : WX} {k : Nat}
/-! ### del d[k] -/
def dropU (kus : List (Key × U)) (ky : Key) : List (Key × U) := kus.filter fun kv => decide (kv.1 ≠ ky)
theorem RepKV.drop {K : PySem.W.Frag} {H : Hp} {ρ : List Addr} {ky : Key} : ∀ {kus : List (Key × U)} {kvs : List (Key × V)}, RepKV K H ρ kus kvs → RepKV K H ρ (dropU kus ky) (dropK kvs ky)
  | [], _, h => by rw [h.unnil]; exact .nil
  | p :: kus, _, h => by
    obtain ⟨v, kvs, rfl, r, t⟩ := h.uncons
    have ih := RepKV.drop (ky := ky) t
    unfold dropU dropK at ih ⊢
    rw [List.filter_cons, List.filter_cons]
    by_cases e : p.1 = ky
    · simp only [e, ne_eq, not_true_eq_false, decide_false]
      exact ih
    · simp only [ne_eq, e, not_false_eq_true, decide_true, if_true]
      exact .cons r ih
def sDelK (mo mi : FE) : FS := fun s μ => ofR (mo s μ) s fun u μ1 => ofR (mi s μ1) s fun w μ2 => match u, keyU w with
  | .ref r, some ky => (match μ2[r]? with
    | some (.dct kus) => if (valU kus ky).isSome = true then .nx s (μ2.set r (.dct (dropU kus ky))) else .bad
    | _ => .bad)
  | _, _ => .bad
theorem cs_delK {o i : Expr} {mo mi : FE} {tpos pos : Pos} (ho : CE X W o mo) (hi : CE X W i mi) : CS X W (.Delete [.Subscript o i tpos] pos) (sDelK mo mi) := by
  intro ρ μ s σ H D hs hm h
  refine ⟨_, ps_ddel pe_w pe_w, ?_⟩
  refine ho ρ μ s σ H _ hs hm (PostS.bind hs h fun u μ1 x H1 ρ1 t1 r1 h1 => ?_)
  refine hi ρ1 μ1 s σ H1 _ (t1.s hs) t1.mem (PostS.bind (t1.s hs) h1 fun w μ2 y H2 ρ2 t2 r2 h2 => ?_)
  split at h2
  · rename_i r ky e2
    split at h2
    · rename_i kus em
      split at h2
      · rename_i hv
        have r3 := t2.v r1
        cases r3 with
        | ref hr =>
          obtain ⟨kvs, q, rr⟩ := dct_of t2.mem hr em
          have t4 := putD t2.mem hr em (rr.drop (ky := ky))
          refine ⟨_, kvs, ky, rfl, q, keyU_ok r2 e2, ?_, h2 σ _ ρ2 t4 (t4.s (t2.s (t1.s hs)))⟩
          obtain ⟨u', eu⟩ := Option.isSome_iff_exists.mp hv
          obtain ⟨v', ev, _⟩ := (rr.val (k := ky)).1 u' eu
          rw [ev]; rfl
      · exact h2.elim
    · exact h2.elim
  · exact h2.elim
/-! ### d.setdefault(k, x) -/
def fSetd (md mk mz : FE) : FE := fun s μ => (md s μ).bind fun x μ1 => match dctU μ1 x with
  | none => .bad
  | some _ => (mk s μ1).bind fun y μ2 => (mz s μ2).bind fun z μ3 => match x, keyU y with
    | .ref r, some ky => (match μ3[r]? with
      | some (.dct kus) => if kus.length < lim then (match valU kus ky with
        | some u => .ok u μ3
        | none => .ok z (μ3.set r (.dct (putU kus ky z)))) else .bad
      | _ => .bad)
    | _, _ => .bad
theorem ce_setd {d e f : Expr} {md me mf : FE} {apos cpos : Pos} (hd : CE X W d md) (he : CE X W e me) (hf : CE X W f mf) (m : M2 X d "setdefault" apos e f cpos) :
    CE X W (.Call (.Attribute d "setdefault" apos) [e, f] [] cpos) (fSetd md me mf) := by
  intro ρ μ s σ H Q hs hm h
  refine ⟨_, pe_dsetd pe_w pe_w pe_w m, ?_⟩
  refine hd ρ μ s σ H _ hs hm (h.bind fun x μ1 xv H1 ρ1 t1 r1 h1 => ?_)
  cases ex : dctU μ1 x with
  | none => rw [ex] at h1; exact h1.elim
  | some kus0 =>
    rw [ex] at h1
    obtain ⟨a, kvs, rfl, q1, _⟩ := dct_at t1.mem r1 ex
    refine ⟨a, rfl, .inl ⟨kvs, .inl q1⟩, ?_⟩
    refine he ρ1 μ1 s σ H1 _ (t1.s hs) t1.mem (h1.bind fun y μ2 yv H2 ρ2 t2 r2 h2 => ?_)
    refine hf ρ2 μ2 s σ H2 _ (t2.s (t1.s hs)) t2.mem (h2.bind fun z μ3 zv H3 ρ3 t3 r3 h3 => ?_)
    split at h3
    · rename_i r ky e2
      split at h3
      · rename_i kus em
        split at h3
        · rename_i hl
          have r4 := t3.v (t2.v r1)
          cases r4 with
          | ref hr =>
            obtain ⟨kvs', q2, rk⟩ := dct_of t3.mem hr em
            refine ⟨kvs', ky, q2, keyU_ok (t3.v r2) e2, by rw [rk.length]; exact lim_lt hl, fun v ev => ?_, fun ev => ?_⟩
            · have hv := rk.val (k := ky)
              cases eu : valU kus ky with
              | none => rw [hv.2 eu] at ev; cases ev
              | some u =>
                rw [eu] at h3
                obtain ⟨v', b1, b2⟩ := hv.1 u eu
                rw [b1] at ev; cases ev
                exact h3.ok (Stp.refl t3.mem) b2
            · have hv := rk.val (k := ky)
              cases eu : valU kus ky with
              | some u =>
                obtain ⟨v', b1, b2⟩ := hv.1 u eu
                rw [b1] at ev; cases ev
              | none =>
                rw [eu] at h3
                have t4 := putD t3.mem hr em (RepKV.put (k := ky) r3 rk)
                exact h3.ok t4 (t4.v r3)
        · exact h3.elim
      · exact h3.elim
    · exact h3.elim
/-! ### min of a dict of ints, list(dict) -/
def kInts : List (Key × U) → Option (List Int)
  | [] => some []
  | (.inl i, _) :: r => (kInts r).map (i :: ·)
  | (.inr _, _) :: _ => none
theorem kInts_ok : ∀ {kus : List (Key × U)} {is : List Int}, kInts kus = some is → kus.map (·.1) = is.map Sum.inl
  | [], is, h => by cases h; rfl
  | (.inl i, u) :: r, is, h => by
    simp only [kInts] at h
    cases e : kInts r with
    | none => rw [e] at h; cases h
    | some js =>
      rw [e] at h
      cases h
      simp [kInts_ok e]
  | (.inr _, _) :: _, _, h => by cases h
def bMinK (us : List U) (μ : Mem) : Res U := match us with
  | [.ref r] => match μ[r]? with
    | some (.dct kus) => match kInts kus with
      | some (m :: is) => .ok (.int (minI m is)) μ
      | _ => .bad
    | _ => .bad
  | _ => .bad
theorem cs_minK (hc : X.calm = true) : CallS X W (.builtin "min") bMinK := by
  intro ρ μ σ H us vs Q hm r h
  unfold bMinK at h
  split at h
  · rename_i i
    cases r with
    | cons ru r0 =>
      cases r0
      split at h
      · rename_i kus em
        split at h
        · rename_i m is e
          cases ru with
          | ref hr =>
            obtain ⟨kvs, q1, rk⟩ := dct_of hm hr em
            refine ⟨_, cr_minK hc, _, kvs, m :: is, rfl, q1, by rw [rk.keys]; exact kInts_ok e, by simp, fun z hz hle => ?_⟩
            have ez : z = minI m is := by
              obtain ⟨h1, h2, h3⟩ := minI_ok is m
              have a1 : z ≤ minI m is := by
                rcases h1 with h1 | h1
                · rw [h1]; exact hle m (by simp)
                · exact hle _ (List.mem_cons_of_mem _ h1)
              have a2 : minI m is ≤ z := by
                rcases List.mem_cons.mp hz with e | e
                · rw [e]; exact h2
                · exact h3 z e
              omega
            rw [ez]
            exact h.ok (Stp.refl hm) .int
        · exact h.elim
      · exact h.elim
  · exact h.elim
def bListD (us : List U) (μ : Mem) : Res U := match us with
  | [.ref r] => match μ[r]? with
    | some (.dct kus) => if ksOk kus = true then .ok (.ref μ.length) (μ ++ [.lst (keysU kus)]) else .bad
    | _ => .bad
  | _ => .bad
theorem keys_rep {K : PySem.W.Frag} {H : Hp} {ρ : List Addr} : ∀ {kus : List (Key × U)} {kvs : List (Key × V)}, RepKV K H ρ kus kvs → ksOk kus = true → RepVs K H ρ (keysU kus) (kvs.map fun kv => kV kv.1)
  | [], _, h, _ => by rw [h.unnil]; exact .nil
  | p :: kus, _, h, ok => by
    obtain ⟨v, kvs, rfl, r, t⟩ := h.uncons
    unfold ksOk at ok
    rw [List.all_cons, Bool.and_eq_true] at ok
    exact .cons (rep_kU ok.1) (keys_rep t ok.2)
theorem cs_listD (hc : X.calm = true) : CallS X W (.type "list") bListD := by
  intro ρ μ σ H us vs Q hm r h
  unfold bListD at h
  split at h
  · rename_i i
    cases r with
    | cons ru r0 =>
      cases r0
      split at h
      · rename_i kus em
        split at h
        · rename_i ok
          cases ru with
          | ref hr =>
            obtain ⟨kvs, q1, rk⟩ := dct_of hm hr em
            exact ⟨_, call_listD hc, _, kvs, rfl, .inl q1, fun p np => h.ok (newL hm np (keys_rep rk ok)) (refN hm)⟩
        · exact h.elim
      · exact h.elim
  · exact h.elim
/-! ### list.index of data -/
def gIndexD (u : U) (us : List U) (μ : Mem) : Res U := match u, us with
  | .ref i, [w] => match datU μ (.ref i), datU μ w with
    | some (.list ds), some d => if (PyData.list ds).depth ≤ 64 ∧ d.depth ≤ 64 then (match ds.findIdx? fun z => PyData.eqv z d with
      | some j => .ok (.int (j : Nat)) μ
      | none => .bad) else .bad
    | _, _ => .bad
  | _, _ => .bad
theorem gs_indexD (hu : X.A.units + 65 < cLine) : MtS X W "list.index" gIndexD := by
  intro ρ μ σ H u us x vs Q hm ru rus h
  unfold gIndexD at h
  split at h
  · rename_i i w
    cases rus with
    | cons r1 r2 =>
      cases r2
      split at h
      · rename_i ds d e1 e2
        split at h
        · rename_i hd
          split at h
          · rename_i j ej
            obtain ⟨a1, a2⟩ := datU_ok hm ru e1
            obtain ⟨b1, b2⟩ := datU_ok hm r1 e2
            cases ru with
            | ref hr =>
              rw [List.findIdx?_eq_some_iff_getElem] at ej
              obtain ⟨hj, z1, z2⟩ := ej
              refine ⟨_, mt_indexD hu, _, _, d, ds, j, ds[j], rfl, rfl, a1, b1, ?_, ?_, List.getElem?_eq_getElem hj, z1, fun m z' hm' hz' => ?_, h.ok (Stp.refl hm) .int⟩
              · unfold SeqAt.shaped; rw [a2, Bool.true_and]; exact decide_eq_true hd.1
              · unfold SeqAt.shaped; rw [b2, Bool.true_and]; exact decide_eq_true hd.2
              · obtain ⟨hm2, e⟩ := List.getElem?_eq_some_iff.mp hz'
                have := z2 m hm'
                rw [e] at this
                simpa using this
          · exact h.elim
        · exact h.elim
      · exact h.elim
  · exact h.elim
theorem Good.hu65 (G : Good X W (k + 40)) : X.A.units + 65 < cLine := by have := G.room.un; omega
/-- a comprehension within another one's element -/
theorem blkOk_in {N : List Str} {osc scope : Scope} {env : Env} {own : List (Str × Nat)} (h : BlkOk N osc scope own) : BlkOk N (relabel osc env) scope own := by
  refine ⟨h.kind, h.uniq, h.ix, fun y hy e => ?_, h.own⟩
  have key : ∀ (names : List (Str × NameKind)), (names.lookup y.1 = some .cell ∨ names.lookup y.1 = some .free) →
      (names.map fun (n, k) => if (k == NameKind.free && env.scope.kind == .function && env.kindOf n == some .cell) then (n, NameKind.cell) else (n, k)).lookup y.1 = some .cell ∨
      (names.map fun (n, k) => if (k == NameKind.free && env.scope.kind == .function && env.kindOf n == some .cell) then (n, NameKind.cell) else (n, k)).lookup y.1 = some .free := by
    intro names
    induction names with
    | nil => intro h; rcases h with h | h <;> cases h
    | cons p r ih =>
      obtain ⟨n, k⟩ := p
      intro h
      rw [List.map_cons]
      simp only [List.lookup_cons] at h ⊢
      by_cases hn : (y.1 == n) = true
      · simp only [hn] at h
        split
        · rw [List.lookup_cons, hn]; exact .inl rfl
        · rw [List.lookup_cons, hn]; exact h
      · have hn' : (y.1 == n) = false := by simpa using hn
        simp only [hn'] at h
        split
        · rw [List.lookup_cons, hn']; exact ih h
        · rw [List.lookup_cons, hn']; exact ih h
  exact key osc.names (h.free y hy e)
/-! ### enumerate of a list or a tuple -/
def iEnumB (a : FE) : FI := fun s μ => match a s μ with
  | .ok (.ref r) _ => iEnumU a s μ
  | _ => iEnumA a s μ
theorem ci_enumB {tg a : Expr} {ma : FE} {p pos : Pos} (h1 : CI X W tg (.Call (.Name "enumerate" p) [a] [] pos) (iEnumU ma)) (h2 : CI X W tg (.Call (.Name "enumerate" p) [a] [] pos) (iEnumA ma)) :
    CI X W tg (.Call (.Name "enumerate" p) [a] [] pos) (iEnumB ma) := by
  intro ρ μ s σ H R hs hm h
  unfold iEnumB at h
  split at h
  · exact h1 ρ μ s σ H R hs hm h
  · exact h2 ρ μ s σ H R hs hm h
end
section
variable {X : Cx} {W W0 : WX} {k : Nat}
/-! ### [e for x in xs for y in e2] -/
def lc2In (j : IterU) (own1 : List Nat) (g : Tgt) (e : FE) (s : Slots) (D : Nat) (next : Mem → Res U) : Nat → Nat → Mem → Res U
  | 0, _, _ => .bad
  | f + 1, i, μ => match itemAt j i μ with
    | none => .bad
    | some none => next μ
    | some (some u) => match setT g u (wipeU s own1) with
      | none => .bad
      | some s1 => match e s1 μ with
          | .ok v μ4 => match μ4[D]? with
            | some (.lst acc) => if acc.length < lim then lc2In j own1 g e s D next f (i + 1) (μ4.set D (.lst (acc ++ [v]))) else .bad
            | _ => .bad
          | _ => .bad
def lc2Go (j : IterU) (own : List Nat) (g : Tgt) (it1 : FI) (own1 : List Nat) (g1 : Tgt) (e : FE) (s : Slots) (D : Nat) : Nat → Nat → Mem → Res U
  | 0, _, _ => .bad
  | f + 1, i, μ => match itemAt j i μ with
    | none => .bad
    | some none => .ok (.ref D) μ
    | some (some u) => match setT g u (wipeU s own) with
      | none => .bad
      | some s1 => match it1 s1 μ with
        | .ok j1 μ3 => lc2In j1 own1 g1 e s1 D (lc2Go j own g it1 own1 g1 e s D f (i + 1)) fuelF 0 μ3
        | _ => .bad
def fLc2 (it : FI) (own : List Nat) (g : Tgt) (it1 : FI) (own1 : List Nat) (g1 : Tgt) (e : FE) : FE := fun s μ => (it s μ).bind fun j μ1 => lc2Go j own g it1 own1 g1 e s μ1.length fuelF 0 (μ1 ++ [.lst []])
def WIb (X : Cx) (scope : Scope) (tg iter : Expr) : TI := fun σ H R => ∀ (s : Shared) (H0 : Hp) (C : Addr) (cl : List (Str × Addr)) (fp : List Addr), WI (X.blk s H0 scope (compEnvC scope cl C X.env) fp) tg iter σ H R
theorem pi_wb {scope : Scope} {tg iter : Expr} (s : Shared) (H0 : Hp) (C : Addr) (cl : List (Str × Addr)) (fp : List Addr) : PI (X.blk s H0 scope (compEnvC scope cl C X.env) fp) tg iter (WIb X scope tg iter) :=
  ⟨fun pins s1 σ H R I q => pi_w.run pins s1 σ H R I (q s H0 C cl fp)⟩
theorem lc2_reads {tg iter tg1 iter1 : Expr} {elt : Expr} {scope : Scope} {own own1 : List Nat} {mi mi1 : FI} {g g1 : Tgt} {e : FE} (hi : CI X W tg iter mi)
    (hg : ∀ s H0 C cl fp, CG (X.blk s H0 scope (compEnvC scope cl C X.env) fp) tg g) (hi1 : ∀ s H0 C cl fp, CI (X.blk s H0 scope (compEnvC scope cl C X.env) fp) W0 tg1 iter1 mi1)
    (hg1 : ∀ s H0 C cl fp, CG (X.blk s H0 scope (compEnvC scope cl C X.env) fp) tg1 g1)
    (he : ∀ s H0 C cl fp, CE (X.blk s H0 scope (compEnvC scope cl C X.env) fp) W0 elt e) (hsub : subT g own = true) (hsub1 : subT g1 own1 = true)
    {ρ : List Addr} {μ : Mem} {s : Slots} {σ : L2.St} {H : Hp} {Q : VK} (hs : RepS X.K H ρ s σ) (hm : RepM X.K H ρ μ) (h : Post X W σ relV ρ H (fLc2 mi own g mi1 own1 g1 e s μ) Q) :
    tLc2 (WI X tg iter) (WGb X scope tg) (WTb X scope []) (WIb X scope tg1 iter1) (WGb X scope tg1) (WTb X scope []) (WEb X scope elt) own own1 σ H Q := by
  refine hi ρ μ s σ H _ hs hm (h.bind fun j μ1 J H1 ρ1 t1 r1 h1 => ?_)
  intro D hD
  have hJ : ItOk X.K ρ1 H1 j J := r1
  have tD := newL t1.mem hD (RepVs.nil (K := X.K) (H := H1) (ρ := ρ1))
  refine ⟨fun i m H' => ∃ ρ' μ', Stp X.K (ρ1 ++ [D]) (upd H1 D (.lst [])) ρ' H' μ' ∧ Post X W σ relV ρ' H' (lc2Go j own g mi1 own1 g1 e s μ1.length m i μ') Q, ⟨fuelF, ρ1 ++ [D], μ1 ++ [.lst []], Stp.refl tD.mem, Post.into tD h1⟩, ?_⟩
  intro i m H' ⟨ρ', μ', t', h'⟩
  have hDr : ρ'[μ1.length]? = some D := t'.ext.get (by rw [← t1.mem.len, List.getElem?_append_right (Nat.le_refl _)]; simp)
  cases m with
  | zero => exact h'.elim
  | succ m =>
    have q := hJ i ρ' H' μ' (tD.ext.trans t'.ext) (tD.tx.trans t'.tx) t'.mem
    unfold lc2Go at h'
    cases e0 : itemAt j i μ' with
    | none => rw [e0] at h'; exact h'.elim
    | some o =>
      rw [e0] at h' q
      cases o with
      | none => exact .inl ⟨q, h'.ok (Stp.refl t'.mem) (.ref hDr)⟩
      | some u =>
        refine .inr ⟨q.1, fun H2 => ∃ ρ2 μ2, Stp X.K (ρ1 ++ [D]) (upd H1 D (.lst [])) ρ2 H2 μ2 ∧ Post X W σ relV ρ2 H2 (lc2Go j own g mi1 own1 g1 e s μ1.length m (i + 1) μ2) Q, fun H2 z => ⟨m, Nat.lt_succ_self m, z⟩, fun x H'' y => ?_⟩
        obtain ⟨t2, ru⟩ := q.2 x H'' y
        simp only at h'
        have hsw : RepS X.K H'' ρ' (wipeU s own) (wipe σ own) := (t2.s (t'.s (tD.s (t1.s hs)))).wipe own
        cases es : setT g u (wipeU s own) with
        | none => rw [es] at h'; exact h'.elim
        | some s1 =>
          rw [es] at h'
          simp only at h'
          intro s0 H0 C cl fp
          refine hg s0 H0 C cl fp ρ' (wipeU s own) (wipe σ own) H'' u x s1 _ hsw ru es fun σ3 hs3 hw => ⟨?_, ?_⟩
          · have := hw own (subT_ok hsub)
            rw [this]
            exact wipe_wipe fun i hi => hi
          · intro s0' H0' C' cl' fp'
            refine cts_nil (X := X.blk s0' H0' scope (compEnvC scope cl' C' X.env) fp') (W := W0) ρ' μ' s1 σ3 H'' _ hs3 t2.mem ?_
            intro b' H4 ρ4 t4 r4
            cases r4
            refine iteT ?_
            intro s0' H0' C' cl' fp'
            have t24 : Stp X.K ρ' H' ρ4 H4 μ' := t2.trans t4
            refine hi1 s0' H0' C' cl' fp' ρ4 μ' s1 σ3 H4 _ (t4.s hs3) t4.mem ?_
            cases ei : mi1 s1 μ' with
            | ex c m2 => rw [ei] at h'; exact h'.elim
            | bad => rw [ei] at h'; exact h'.elim
            | ok j1 μ3 =>
              rw [ei] at h'
              simp only at h'
              intro J1 H5 ρ5 t5 r5
              have hJ1 : ItOk X.K ρ5 H5 j1 J1 := r5
              have hs5 : RepS X.K H5 ρ5 s1 σ3 := t5.s (t4.s hs3)
              refine ⟨fun i2 m2 H6 => ∃ ρ6 μ6, Stp X.K ρ5 H5 ρ6 H6 μ6 ∧ Post X W σ relV ρ6 H6 (lc2In j1 own1 g1 e s1 μ1.length (lc2Go j own g mi1 own1 g1 e s μ1.length m (i + 1)) m2 i2 μ6) Q, ⟨fuelF, ρ5, μ3, Stp.refl t5.mem, Post.into (t24.trans t5) h'⟩, ?_⟩
              intro i2 m2 H6 ⟨ρ6, μ6, t6, h6⟩
              have tall : Stp X.K (ρ1 ++ [D]) (upd H1 D (.lst [])) ρ6 H6 μ6 := ((t'.trans t24).trans t5).trans t6
              have hD6 : ρ6[μ1.length]? = some D := t6.ext.get (t5.ext.get (t24.ext.get hDr))
              cases m2 with
              | zero => exact h6.elim
              | succ m2 =>
                have q6 := hJ1 i2 ρ6 H6 μ6 t6.ext t6.tx t6.mem
                unfold lc2In at h6
                cases e6 : itemAt j1 i2 μ6 with
                | none => rw [e6] at h6; exact h6.elim
                | some o6 =>
                  rw [e6] at h6 q6
                  cases o6 with
                  | none => exact .inl ⟨q6, ρ6, μ6, tall, h6⟩
                  | some u6 =>
                    refine .inr ⟨q6.1, fun H7 => ∃ ρ7 μ7, Stp X.K ρ5 H5 ρ7 H7 μ7 ∧ Post X W σ relV ρ7 H7 (lc2In j1 own1 g1 e s1 μ1.length (lc2Go j own g mi1 own1 g1 e s μ1.length m (i + 1)) m2 (i2 + 1) μ7) Q, fun H7 z => ⟨m2, Nat.lt_succ_self m2, z⟩, fun x6 H7 y6 => ?_⟩
                    obtain ⟨t7, ru6⟩ := q6.2 x6 H7 y6
                    simp only at h6
                    have hsw6 : RepS X.K H7 ρ6 (wipeU s1 own1) (wipe σ3 own1) := (t7.s (t6.s hs5)).wipe own1
                    cases es6 : setT g1 u6 (wipeU s1 own1) with
                    | none => rw [es6] at h6; exact h6.elim
                    | some s6 =>
                      rw [es6] at h6
                      simp only at h6
                      intro s0' H0' C' cl' fp'
                      refine hg1 s0' H0' C' cl' fp' ρ6 (wipeU s1 own1) (wipe σ3 own1) H7 u6 x6 s6 _ hsw6 ru6 es6 fun σ6 hs6 hw6 => ⟨?_, ?_⟩
                      · have := hw6 own1 (subT_ok hsub1)
                        rw [this]
                        exact wipe_wipe fun i hi => hi
                      · intro s0' H0' C' cl' fp'
                        refine cts_nil (X := X.blk s0' H0' scope (compEnvC scope cl' C' X.env) fp') (W := W0) ρ6 μ6 s6 σ6 H7 _ hs6 t7.mem ?_
                        intro b' H8 ρ8 t8 r8
                        cases r8
                        refine iteT ?_
                        intro s0' H0' C' cl' fp'
                        refine he s0' H0' C' cl' fp' ρ8 μ6 s6 σ6 H8 _ (t8.s hs6) t8.mem ?_
                        cases ee : e s6 μ6 with
                        | ex c m2 => rw [ee] at h6; exact h6.elim
                        | bad => rw [ee] at h6; exact h6.elim
                        | ok v μ9 =>
                          rw [ee] at h6
                          simp only at h6
                          intro w H9 ρ9 t9 r9
                          split at h6
                          · rename_i acc em
                            split at h6
                            · rename_i hz
                              have hD9 : ρ9[μ1.length]? = some D := t9.ext.get (t8.ext.get (t7.ext.get hD6))
                              obtain ⟨ws, q9, rr⟩ := lst_of t9.mem hD9 em
                              have t10 := putL t9.mem hD9 em (rr.append (.one r9))
                              exact ⟨ws, q9, by rw [← rr.length]; exact lim_lt hz, ρ9, _, (((t6.trans t7).trans t8).trans t9).trans t10, Post.into (((t7.trans t8).trans t9).trans t10) h6⟩
                            · exact h6.elim
                          · exact h6.elim
theorem ce_lc2 {tg iter tg1 iter1 : Expr} {elt : Expr} {scope : Scope} {own : List (Str × Nat)} {own1 : List Nat} {pos : Pos} {mi mi1 : FI} {g g1 : Tgt} {e : FE} (G : Good X W k) (hN : X.N.Nodup) (ok : BlkOk X.N X.env.scope scope own) (hv : ∀ i ∈ own1, i ∈ own.map (·.2)) (hi : CI X W tg iter mi)
    (hg : ∀ s H0 C cl fp, CG (X.blk s H0 scope (compEnvC scope cl C X.env) fp) tg g) (hi1 : ∀ s H0 C cl fp, CI (X.blk s H0 scope (compEnvC scope cl C X.env) fp) W0 tg1 iter1 mi1)
    (hg1 : ∀ s H0 C cl fp, CG (X.blk s H0 scope (compEnvC scope cl C X.env) fp) tg1 g1)
    (he : ∀ s H0 C cl fp, CE (X.blk s H0 scope (compEnvC scope cl C X.env) fp) W0 elt e) (hsub : subT g (own.map (·.2)) = true) (hsub1 : subT g1 own1 = true)
    (hs0 : ∀ x, foldedSetIterable iter X.env x = pure x := by intro _; rfl) (hs1 : ∀ env x, foldedSetIterable iter1 env x = pure x := by intro _ _; rfl) :
    CE X W (.ListComp elt [⟨tg, iter, [], 0⟩, ⟨tg1, iter1, [], 0⟩] scope pos) (fLc2 mi (own.map (·.2)) g mi1 own1 g1 e) :=
  fun ρ μ s σ H Q hs hm h => ⟨_, pe_lc2 G.calm hN pi_w ok hv pg_wb pts_wb pi_wb pg_wb pts_wb pe_wb hs0 hs1, lc2_reads hi hg hi1 hg1 he hsub hsub1 hs hm h⟩
end
end Dg
namespace Lw
open PySem PySem.Spec PyProof.Rows L2 RZ Dg
/-! ### the mirrors -/
abbrev Calls := Nat → List U → Mem → Res U
def b_met_from (C : Calls) : FS :=
    (sSeq (sAsg (.one 2) (fLst (aCons (fVar 1) aNil)))
    (sSeq (sAsg (.one 3) (fDisp [((fVar 1), (fC (.bl true)))]))
    (sSeq (sAsg (.one 4) (fC (.int 0)))
    (sSeq (sWhile (tstB (fOp uLt (fVar 4) (fCall bLen (aCons (fVar 2) aNil)))) (sSeq (sAsg (.one 5) (fOp ixU (fVar 0) (fOp ixU (fVar 2) (fVar 4))))
    (sSeq (sFor (iSeq (fVar 5)) (.one 6) (sIf (tAn (tstB (fOp uNe (fVar 6) (fNeg (fC (.int 1))))) (tstB (fOp uNin (fVar 6) (fVar 3)))) (sSeq (sStore (fVar 3) (fVar 6) (fC (.bl true)))
    (sExpr (fMtL gAppend (fVar 2) (aCons (fVar 6) aNil)))) sNext))
    (sAug 4 (fun i j => i + j) (fC (.int 1))))) fuelF)
    (sRet (fVar 2))))))
def b_live_states (C : Calls) : FS :=
    (sSeq (sAsg (.one 2) (fLc (iSeq (fVar 0)) [9] (.one 9) tAll (fLst aNil)))
    (sSeq (sFor (iEnumB (fVar 0)) (.tup [3, 4]) (sFor (iSeq (fVar 4)) (.one 5) (sIf (tstB (fOp uNe (fVar 5) (fNeg (fC (.int 1))))) (sExpr (fMtL gAppend (fOp ixU (fVar 2) (fVar 5)) (aCons (fVar 3) aNil))) sNext)))
    (sSeq (sAsg (.one 6) (fLc (iRg1 (fCall bLen (aCons (fVar 0) aNil))) [3] (.one 3) (tst (fOp ixU (fVar 1) (fVar 3))) (fVar 3)))
    (sSeq (sAsg (.one 7) (fDcK (iSeq (fVar 6)) [3] (.one 3) tAll (fVar 3) (fC (.bl true))))
    (sSeq (sWhile (tst (fVar 6)) (sSeq (sAsg (.one 8) (fOp ixU (fVar 2) (fMtL gPop (fVar 6) aNil)))
    (sFor (iSeq (fVar 8)) (.one 3) (sIf (tstB (fOp uNin (fVar 3) (fVar 7))) (sSeq (sStore (fVar 7) (fVar 3) (fC (.bl true)))
    (sExpr (fMtL gAppend (fVar 6) (aCons (fVar 3) aNil)))) sNext))) fuelF)
    (sRet (fVar 7)))))))
def b_trimmed (C : Calls) : FS :=
    (sSeq (sAsg (.one 2) (fDef 2 (C 1) (aCons (fVar 0) (aCons (fVar 1) aNil))))
    (sSeq (sIf (tstB (fOp uNin (fC (.int 0)) (fVar 2))) (sRet (fTup (aCons (fLst aNil) (aCons (fLst aNil) aNil)))) sNext)
    (sSeq (sAsg (.one 3) (fLc (iSeq (fDef 2 (C 0) (aCons (fVar 0) (aCons (fC (.int 0)) aNil)))) [6] (.one 6) (tstB (fOp uIn (fVar 6) (fVar 2))) (fVar 6)))
    (sSeq (sAsg (.one 4) (fDcK (iEnumU (fVar 3)) [7, 6] (.tup [7, 6]) tAll (fVar 6) (fVar 7)))
    (sSeq (sAsg (.one 5) (fLc (iSeq (fVar 3)) [6] (.one 6) tAll (fLc (iSeq (fOp ixU (fVar 0) (fVar 6))) [8] (.one 8) tAll (fGet (fVar 4) (fVar 8) (fNeg (fC (.int 1)))))))
    (sRet (fTup (aCons (fVar 5) (aCons (fLc (iSeq (fVar 3)) [6] (.one 6) tAll (fOp ixU (fVar 1) (fVar 6))) aNil)))))))))
def b_Blocks_init (C : Calls) : FS :=
    (sSeq (sFldS "Blocks" "block_of" (fVar 0) (fOp uMul (fLst (aCons (fC (.int 0)) aNil)) (fVar 1)))
    (sSeq (sFldS "Blocks" "members" (fVar 0) (fLst (aCons (fDcK (iRg1 (fVar 1)) [2] (.one 2) tAll (fVar 2) (fC (.bl true))) aNil)))
    (sFldS "Blocks" "pending" (fVar 0) (fLst (aCons (fC (.int 0)) aNil)))))
def b_Blocks_move_out (C : Calls) : FS :=
    (sSeq (sFor (iSeq (fVar 1)) (.one 3) (sSeq (sDelK (fOp ixU (fFld "Blocks" "members" (fVar 0)) (fVar 2)) (fVar 3))
    (sStore (fFld "Blocks" "block_of" (fVar 0)) (fVar 3) (fCall bLen (aCons (fFld "Blocks" "members" (fVar 0)) aNil)))))
    (sSeq (sExpr (fMtL gAppend (fFld "Blocks" "pending" (fVar 0)) (aCons (fCall bLen (aCons (fFld "Blocks" "members" (fVar 0)) aNil)) aNil)))
    (sExpr (fMtL gAppend (fFld "Blocks" "members" (fVar 0)) (aCons (fDcK (iSeq (fVar 1)) [3] (.one 3) tAll (fVar 3) (fC (.bl true))) aNil)))))
def b_Blocks_split_by (C : Calls) : FS :=
    (sSeq (sAsg (.one 2) fD0)
    (sSeq (sFor (iSeq (fVar 1)) (.one 3) (sExpr (fMtL gAppend (fSetd (fVar 2) (fOp ixU (fFld "Blocks" "block_of" (fVar 0)) (fVar 3)) (fLst aNil)) (aCons (fVar 3) aNil))))
    (sLock (fVar 2) (sFor (Dg.iItems (fVar 2)) (.tup [4, 5]) (sSeq (sAsg (.one 6) (fCall bLen (aCons (fOp ixU (fFld "Blocks" "members" (fVar 0)) (fVar 4)) aNil)))
    (sIf (tstB (fOp uLe (fOp uMul (fC (.int 2)) (fCall bLen (aCons (fVar 5) aNil))) (fVar 6))) (sExpr (fMeth "Blocks" "move_out" 3 (C 4) (fVar 0) (aCons (fVar 5) (aCons (fVar 4) aNil)))) (sIf (tstB (fOp uLt (fCall bLen (aCons (fVar 5) aNil)) (fVar 6))) (sSeq (sAsg (.one 7) (fDcK (iSeq (fVar 5)) [3] (.one 3) tAll (fVar 3) (fC (.bl true))))
    (sExpr (fMeth "Blocks" "move_out" 3 (C 4) (fVar 0) (aCons (fLock (fOp ixU (fFld "Blocks" "members" (fVar 0)) (fVar 4)) (fLc (Dg.iKeys (fOp ixU (fFld "Blocks" "members" (fVar 0)) (fVar 4))) [3] (.one 3) (tstB (fOp uNin (fVar 3) (fVar 7))) (fVar 3))) (aCons (fVar 4) aNil))))) sNext)))))))
def b_sources_by_letter (C : Calls) : FS :=
    (sSeq (sAsg (.one 2) (fLc (iRg1 (fVar 0)) [7] (.one 7) tAll fD0))
    (sSeq (sFor (iEnumU (fVar 1)) (.tup [3, 4]) (sFor (iEnumU (fVar 4)) (.tup [5, 6]) (sIf (tstB (fOp uNe (fVar 6) (fNeg (fC (.int 1))))) (sExpr (fMtL gAppend (fSetd (fOp ixU (fVar 2) (fVar 5)) (fVar 6) (fLst aNil)) (aCons (fVar 3) aNil))) sNext)))
    (sRet (fVar 2))))
def b_blocks_of (C : Calls) : FS :=
    (sSeq (sAsg (.one 3) (fDef 2 (C 6) (aCons (fVar 0) (aCons (fVar 1) aNil))))
    (sSeq (sAsg (.one 4) (fMake "Blocks" 2 (C 3) (aCons (fCall bLen (aCons (fVar 1) aNil)) aNil)))
    (sSeq (sExpr (fMeth "Blocks" "split_by" 2 (C 5) (fVar 4) (aCons (fLc (iRg1 (fCall bLen (aCons (fVar 1) aNil))) [7] (.one 7) (tst (fOp ixU (fVar 2) (fVar 7))) (fVar 7)) aNil)))
    (sSeq (sWhile (tst (fFld "Blocks" "pending" (fVar 4))) (sSeq (sAsg (.one 5) (fCall bListD (aCons (fOp ixU (fFld "Blocks" "members" (fVar 4)) (fMtL gPop (fFld "Blocks" "pending" (fVar 4)) aNil)) aNil)))
    (sFor (iSeq (fVar 3)) (.one 6) (sExpr (fMeth "Blocks" "split_by" 2 (C 5) (fVar 4) (aCons (fLc2 (iSeq (fVar 5)) [8, 7] (.one 8) (iSeq (fGet (fVar 6) (fVar 8) (fLst aNil))) [7] (.one 7) (fVar 7)) aNil))))) fuelF)
    (sRet (fVar 4))))))
def b_least (C : Calls) : FS :=
    (sSeq (sAsg (.tup [1, 2]) (fDef 2 (C 2) (aCons (fVar 1) (aCons (fVar 2) aNil))))
    (sSeq (sIf (tNt (tst (fVar 1))) (sRet (fTup (aCons (fVar 0) (aCons (fTup aNil) (aCons (fTup aNil) aNil))))) sNext)
    (sSeq (sAsg (.one 3) (fDef 3 (C 7) (aCons (fVar 0) (aCons (fVar 1) (aCons (fVar 2) aNil)))))
    (sSeq (sAsg (.one 4) (fLc (iSeq (fFld "Blocks" "members" (fVar 3))) [8] (.one 8) tAll (fCall bMinK (aCons (fVar 8) aNil))))
    (sSeq (sAsg (.one 5) (fLc (iSeq (fVar 4)) [9] (.one 9) tAll (fLc (iSeq (fOp ixU (fVar 1) (fVar 9))) [10] (.one 10) tAll (fIf (tstB (fOp uEq (fVar 10) (fNeg (fC (.int 1))))) (fNeg (fC (.int 1))) (fOp ixU (fFld "Blocks" "block_of" (fVar 3)) (fVar 10))))))
    (sSeq (sAsg (.one 6) (fDef 2 (C 0) (aCons (fVar 5) (aCons (fOp ixU (fFld "Blocks" "block_of" (fVar 3)) (fC (.int 0))) aNil))))
    (sSeq (sAsg (.one 7) (fDcK (iEnumU (fVar 6)) [11, 12] (.tup [11, 12]) tAll (fVar 12) (fVar 11)))
    (sSeq (sStore (fVar 7) (fNeg (fC (.int 1))) (fNeg (fC (.int 1))))
    (sRet (fTup (aCons (fVar 0) (aCons (fCall bTuple (aCons (fLc (iSeq (fVar 6)) [12] (.one 12) tAll (fCall bTuple (aCons (fLc (iSeq (fOp ixU (fVar 5) (fVar 12))) [10] (.one 10) tAll (fOp ixU (fVar 7) (fVar 10))) aNil))) aNil)) (aCons (fCall bTuple (aCons (fLc (iSeq (fVar 6)) [12] (.one 12) tAll (fOp ixU (fVar 2) (fOp ixU (fVar 4) (fVar 12)))) aNil)) aNil)))))))))))))
def b_are_moves (C : Calls) : FS :=
    (sRet (fAnd (fOp uEq (fCall bLen (aCons (fVar 0) aNil)) (fVar 1)) (fCall bAll (aCons (fLc (iSeq (fVar 0)) [3] (.one 3) tAll (fChain uLe uLt (fNeg (fC (.int 1))) (fVar 3) (fVar 2))) aNil))))
def b_check_machine (C : Calls) : FS :=
    (sSeq (sAsg (.tup [1, 2, 3]) (fVar 0))
    (sSeq (sIf (tNt (tstB (fChain uLe uLe (fC (.int 0)) (fVar 1) (fC (.int 200))))) (sRaise "NotAllowed" (fJs [(fC (.str "the number of letters is not from 0 to ")), (fFmt (fC (.int 200)))] Str.empty)) sNext)
    (sSeq (sIf (tstB (fOp uGt (fCall bLen (aCons (fVar 2) aNil)) (fC (.int 400)))) (sRaise "NotAllowed" (fJs [(fC (.str "there are more than ")), (fFmt (fC (.int 400))), (fC (.str " states"))] Str.empty)) sNext)
    (sSeq (sIf (tstB (fOp uNe (fCall bLen (aCons (fVar 3) aNil)) (fCall bLen (aCons (fVar 2) aNil)))) (sRaise "NotAllowed" (fC (.str "there is not one truth value for each state"))) sNext)
    (sIf (tNt (tst (fCall bAll (aCons (fLc (iSeq (fVar 2)) [4] (.one 4) tAll (fDef 3 (C 9) (aCons (fVar 4) (aCons (fVar 1) (aCons (fCall bLen (aCons (fVar 2) aNil)) aNil))))) aNil)))) (sRaise "NotAllowed" (fC (.str "the entry of a state does not fit"))) sNext)))))
def b_least_machine (C : Calls) : FS :=
    (sSeq (sAsg (.tup [1, 2, 3]) (fVar 0))
    (sRet (fDef 3 (C 8) (aCons (fVar 1) (aCons (fVar 2) (aCons (fVar 3) aNil))))))
def b__law_numbers (C : Calls) : FS :=
    (sSeq (sAsg (.one 2) (fLst aNil))
    (sSeq (sFor (iRg1 (fCall bLen (aCons (fVar 0) aNil))) (.one 3) (sSeq (sAsg (.one 4) (fCall bAbs (aCons (fCall bInt (aCons (fOp ixU (fVar 0) (fVar 3)) aNil)) aNil)))
    (sIf (tstB (fOp uGeX (fVar 4) (fOp uPow (fC (.int 10)) (fC (.int 18))))) (sFor (iRg1 (fC (.int 60))) (.one 5) (sIf (tAn (tstB (fOp uGt (fVar 4) (fC (.int 0)))) (tstB (fOp uLt (fCall bLen (aCons (fVar 2) aNil)) (fVar 1)))) (sSeq (sExpr (fMtL gAppend (fVar 2) (aCons (fOp uMod (fVar 4) (fC (.int 10007))) aNil)))
    (sAsg (.one 4) (fOp uFdiv (fVar 4) (fC (.int 10007))))) sNext)) (sIf (tstB (fOp uLt (fCall bLen (aCons (fVar 2) aNil)) (fVar 1))) (sSeq (sAsg (.one 6) (fOp uMod (fCall bInt (aCons (fOp uAdd (fOp uAdd (fOp uMul (fVar 4) (fC (.int 48271))) (fOp uMul (fVar 3) (fC (.int 69621)))) (fC (.int 11))) aNil)) (fC (.int 2147483647))))
    (sExpr (fMtL gAppend (fVar 2) (aCons (fOp uFdiv (fOp uMod (fCall bInt (aCons (fOp uAdd (fOp uAdd (fOp uMul (fVar 6) (fC (.int 16807))) (fOp uMul (fC (.int 7)) (fVar 3))) (fC (.int 3))) aNil)) (fC (.int 2147483647))) (fC (.int 3))) aNil)))) sNext))))
    (sSeq (sAsg (.one 7) (fCall bLen (aCons (fVar 2) aNil)))
    (sSeq (sAsg (.one 8) (fOp uAdd (fC (.int 5381)) (fCall bLen (aCons (fVar 0) aNil))))
    (sSeq (sFor (iRg1 (fCall bMax (aCons (fC (.int 0)) (aCons (fOp uSub (fVar 1) (fVar 7)) aNil)))) (.one 3) (sSeq (sIf (tstB (fOp uGt (fVar 7) (fC (.int 0)))) (sAsg (.one 8) (fOp uAdd (fVar 8) (fOp ixU (fVar 2) (fOp uMod (fVar 3) (fVar 7))))) sNext)
    (sSeq (sAsg (.one 8) (fOp uMod (fCall bInt (aCons (fOp uAdd (fOp uMul (fVar 8) (fC (.int 48271))) (fVar 3)) aNil)) (fC (.int 2147483647))))
    (sExpr (fMtL gAppend (fVar 2) (aCons (fOp uFdiv (fVar 8) (fC (.int 7))) aNil))))))
    (sRet (fSl (fVar 2) oNone (oSome (fVar 1)))))))))
def b__law_machine (C : Calls) : FS :=
    (sSeq (sAsg (.one 5) (fLst aNil))
    (sSeq (sAsg (.one 6) (fLst aNil))
    (sSeq (sFor (iRg1 (fVar 3)) (.one 7) (sSeq (sAsg (.one 8) (fLst aNil))
    (sSeq (sFor (iRg1 (fVar 2)) (.one 9) (sSeq (sAsg (.one 10) (fOp ixU (fVar 0) (fOp uMod (fCall bInt (aCons (fOp uAdd (fOp uAdd (fVar 1) (fOp uMul (fVar 7) (fVar 2))) (fVar 9)) aNil)) (fCall bLen (aCons (fVar 0) aNil)))))
    (sSeq (sAsg (.one 11) (fOp uMod (fOp uFdiv (fVar 10) (fC (.int 7))) (fVar 3)))
    (sSeq (sIf (tstB (fOp uLt (fOp uMod (fVar 10) (fC (.int 5))) (fVar 4))) (sAsg (.one 11) (fNeg (fC (.int 1)))) sNext)
    (sExpr (fMtL gAppend (fVar 8) (aCons (fVar 11) aNil)))))))
    (sSeq (sExpr (fMtL gAppend (fVar 5) (aCons (fCall bTuple (aCons (fVar 8) aNil)) aNil)))
    (sExpr (fMtL gAppend (fVar 6) (aCons (fOp uEq (fOp uMod (fOp uFdiv (fOp ixU (fVar 0) (fOp uMod (fCall bInt (aCons (fOp uAdd (fOp uAdd (fVar 1) (fC (.int 131))) (fVar 7)) aNil)) (fCall bLen (aCons (fVar 0) aNil)))) (fC (.int 3))) (fC (.int 3))) (fC (.int 0))) aNil)))))))
    (sRet (fTup (aCons (fVar 2) (aCons (fCall bTuple (aCons (fVar 5) aNil)) (aCons (fCall bTuple (aCons (fVar 6) aNil)) aNil))))))))
def b__law_next (C : Calls) : FS :=
    (sSeq (sIf (tstB (fOp uLt (fVar 1) (fC (.int 0)))) (sRet (fNeg (fC (.int 1)))) sNext)
    (sRet (fOp ixU (fOp ixU (fOp ixU (fVar 0) (fC (.int 1))) (fVar 1)) (fVar 2))))
def b__law_ends (C : Calls) : FS :=
    (sRet (fAnd (fOp uGeX (fVar 1) (fC (.int 0))) (fOp ixU (fOp ixU (fVar 0) (fC (.int 2))) (fVar 1))))
def b__law_first (C : Calls) : FS :=
    (sRet (fOp ixU (fLst (aCons (fNeg (fC (.int 1))) (aCons (fC (.int 0)) aNil))) (fCall bInt (aCons (fOp uGt (fCall bLen (aCons (fOp ixU (fVar 0) (fC (.int 1))) aNil)) (fC (.int 0))) aNil))))
def b__law_pairs (C : Calls) : FS :=
    (sSeq (sAsg (.one 2) (fLst (aCons (fTup (aCons (fDef 1 (C 16) (aCons (fVar 0) aNil)) (aCons (fDef 1 (C 16) (aCons (fVar 1) aNil)) aNil))) aNil)))
    (sSeq (sFor (iRg1 (fOp uMul (fOp uAdd (fCall bLen (aCons (fOp ixU (fVar 0) (fC (.int 1))) aNil)) (fC (.int 1))) (fOp uAdd (fCall bLen (aCons (fOp ixU (fVar 1) (fC (.int 1))) aNil)) (fC (.int 1))))) (.one 3) (sIf (tstB (fOp uLt (fVar 3) (fCall bLen (aCons (fVar 2) aNil)))) (sFor (iRg1 (fOp ixU (fVar 0) (fC (.int 0)))) (.one 4) (sSeq (sAsg (.one 5) (fTup (aCons (fDef 3 (C 14) (aCons (fVar 0) (aCons (fOp ixU (fOp ixU (fVar 2) (fVar 3)) (fC (.int 0))) (aCons (fVar 4) aNil)))) (aCons (fDef 3 (C 14) (aCons (fVar 1) (aCons (fOp ixU (fOp ixU (fVar 2) (fVar 3)) (fC (.int 1))) (aCons (fVar 4) aNil)))) aNil))))
    (sIf (tstB (fOp uNin (fVar 5) (fVar 2))) (sExpr (fMtL gAppend (fVar 2) (aCons (fVar 5) aNil))) sNext))) sNext))
    (sRet (fVar 2))))
def b__law_alike (C : Calls) : FS :=
    (sRet (fCall bAll (aCons (fLc (iSeq (fDef 2 (C 17) (aCons (fVar 0) (aCons (fVar 1) aNil)))) [2] (.one 2) tAll (fOp uEq (fDef 2 (C 15) (aCons (fVar 0) (aCons (fOp ixU (fVar 2) (fC (.int 0))) aNil))) (fDef 2 (C 15) (aCons (fVar 1) (aCons (fOp ixU (fVar 2) (fC (.int 1))) aNil))))) aNil)))
def b__law_useful (C : Calls) : FS :=
    (sSeq (sAsg (.one 1) (fCall bList (aCons (fOp ixU (fVar 0) (fC (.int 2))) aNil)))
    (sSeq (sFor (iRg1 (fCall bLen (aCons (fVar 1) aNil))) (.one 2) (sFor (iRg1 (fCall bLen (aCons (fVar 1) aNil))) (.one 3) (sFor (iSeq (fOp ixU (fOp ixU (fVar 0) (fC (.int 1))) (fVar 3))) (.one 4) (sIf (tAn (tstB (fOp uGeX (fVar 4) (fC (.int 0)))) (tst (fOp ixU (fVar 1) (fVar 4)))) (sStore (fVar 1) (fVar 3) (fC (.bl true))) sNext))))
    (sRet (fVar 1))))
def b__law_least (C : Calls) : FS :=
    (sSeq (sAsg (.one 1) (fDef 1 (C 19) (aCons (fVar 0) aNil)))
    (sSeq (sIf (tOr' (tstB (fOp uEq (fCall bLen (aCons (fVar 1) aNil)) (fC (.int 0)))) (tNt (tst (fOp ixU (fVar 1) (fC (.int 0)))))) (sRet (fTup (aCons (fOp ixU (fVar 0) (fC (.int 0))) (aCons (fTup aNil) (aCons (fTup aNil) aNil))))) sNext)
    (sSeq (sAsg (.one 2) (fLc (iRg1 (fCall bLen (aCons (fVar 1) aNil))) [5] (.one 5) tAll (fOp uAdd (fCall bInt (aCons (fOp ixU (fVar 1) (fVar 5)) aNil)) (fCall bInt (aCons (fOp ixU (fOp ixU (fVar 0) (fC (.int 2))) (fVar 5)) aNil)))))
    (sSeq (sFor (iRg1 (fCall bLen (aCons (fVar 1) aNil))) (.one 3) (sSeq (sAsg (.one 4) (fLst aNil))
    (sSeq (sFor (iRg1 (fCall bLen (aCons (fVar 1) aNil))) (.one 5) (sSeq (sAsg (.one 6) (fLst (aCons (fOp ixU (fVar 2) (fVar 5)) aNil)))
    (sSeq (sFor (iSeq (fOp ixU (fOp ixU (fVar 0) (fC (.int 1))) (fVar 5))) (.one 7) (sExpr (fMtL gAppend (fVar 6) (aCons (fIf (tst (fOp ixU (fVar 1) (fVar 5))) (fOp ixU (fLst (aCons (fC (.int 0)) (aCons (fC (.int 0)) (aCons (fOp ixU (fVar 2) (fVar 7)) aNil)))) (fOp uAdd (fC (.int 1)) (fCall bInt (aCons (fOp uGeX (fVar 7) (fC (.int 0))) aNil)))) (fC (.int 0))) aNil))))
    (sExpr (fMtL gAppend (fVar 4) (aCons (fVar 6) aNil))))))
    (sAsg (.one 2) (fLc (iRg1 (fCall bLen (aCons (fVar 1) aNil))) [5] (.one 5) tAll (fOp uMul (fCall bInt (aCons (fOp ixU (fVar 1) (fVar 5)) aNil)) (fOp uAdd (fC (.int 1)) (fMtL gIndexD (fVar 4) (aCons (fOp ixU (fVar 4) (fVar 5)) aNil)))))))))
    (sSeq (sAsg (.one 8) (fLst (aCons (fC (.int 0)) aNil)))
    (sSeq (sAsg (.one 9) (fLst (aCons (fOp ixU (fVar 2) (fC (.int 0))) aNil)))
    (sSeq (sAsg (.one 10) (fLst aNil))
    (sSeq (sFor (iRg1 (fCall bLen (aCons (fVar 1) aNil))) (.one 11) (sIf (tstB (fOp uLt (fVar 11) (fCall bLen (aCons (fVar 8) aNil)))) (sSeq (sAsg (.one 6) (fLst aNil))
    (sSeq (sFor (iSeq (fOp ixU (fOp ixU (fVar 0) (fC (.int 1))) (fOp ixU (fVar 8) (fVar 11)))) (.one 7) (sSeq (sAsg (.one 12) (fC (.int 0)))
    (sSeq (sIf (tstB (fOp uGeX (fVar 7) (fC (.int 0)))) (sAsg (.one 12) (fOp ixU (fVar 2) (fVar 7))) sNext)
    (sSeq (sIf (tAn (tstB (fOp uGt (fVar 12) (fC (.int 0)))) (tstB (fOp uNin (fVar 12) (fVar 9)))) (sSeq (sExpr (fMtL gAppend (fVar 9) (aCons (fVar 12) aNil)))
    (sExpr (fMtL gAppend (fVar 8) (aCons (fVar 7) aNil)))) sNext)
    (sExpr (fMtL gAppend (fVar 6) (aCons (fIf (tstB (fOp uEq (fVar 12) (fC (.int 0)))) (fNeg (fC (.int 1))) (fMtL gIndex (fVar 9) (aCons (fVar 12) aNil))) aNil)))))))
    (sExpr (fMtL gAppend (fVar 10) (aCons (fCall bTuple (aCons (fVar 6) aNil)) aNil))))) sNext))
    (sRet (fTup (aCons (fOp ixU (fVar 0) (fC (.int 0))) (aCons (fCall bTuple (aCons (fVar 10) aNil)) (aCons (fCall bTuple (aCons (fLc (iSeq (fVar 8)) [5] (.one 5) tAll (fOp ixU (fOp ixU (fVar 0) (fC (.int 2))) (fVar 5))) aNil)) aNil)))))))))))))
def b__law_doubled (C : Calls) : FS :=
    (sSeq (sAsg (.one 2) (fCall bLen (aCons (fOp ixU (fVar 0) (fC (.int 1))) aNil)))
    (sSeq (sAsg (.one 3) (fLst aNil))
    (sSeq (sFor (iRg1 (fOp uMul (fC (.int 2)) (fVar 2))) (.one 4) (sSeq (sAsg (.one 5) (fLst aNil))
    (sSeq (sFor (iSeq (fOp ixU (fOp ixU (fVar 0) (fC (.int 1))) (fOp uMod (fCall bInt (aCons (fVar 4) aNil)) (fCall bMax (aCons (fC (.int 1)) (aCons (fVar 2) aNil)))))) (.one 6) (sSeq (sIf (tAn (tstB (fOp uGeX (fVar 6) (fC (.int 0)))) (tstB (fOp uEq (fOp uMod (fOp uFdiv (fOp ixU (fVar 1) (fOp uAdd (fCall bLen (aCons (fVar 5) aNil)) (fVar 4))) (fC (.int 5))) (fC (.int 2))) (fC (.int 0))))) (sAsg (.one 6) (fOp uAdd (fVar 6) (fVar 2))) sNext)
    (sExpr (fMtL gAppend (fVar 5) (aCons (fVar 6) aNil)))))
    (sExpr (fMtL gAppend (fVar 3) (aCons (fCall bTuple (aCons (fVar 5) aNil)) aNil))))))
    (sRet (fTup (aCons (fOp ixU (fVar 0) (fC (.int 0))) (aCons (fCall bTuple (aCons (fVar 3) aNil)) (aCons (fOp uAdd (fOp ixU (fVar 0) (fC (.int 2))) (fOp ixU (fVar 0) (fC (.int 2)))) aNil))))))))
def b__law_line (C : Calls) : FS :=
    (sSeq (sAsg (.one 1) (fOp uAdd (fCall bTuple (aCons (fLc (iRg1 (fOp uSub (fVar 0) (fC (.int 1)))) [2] (.one 2) tAll (fTup (aCons (fOp uAdd (fVar 2) (fC (.int 1))) aNil))) aNil)) (fTup (aCons (fTup (aCons (fNeg (fC (.int 1))) aNil)) aNil))))
    (sRet (fTup (aCons (fC (.int 1)) (aCons (fVar 1) (aCons (fCall bTuple (aCons (fLc (iRg1 (fVar 0)) [2] (.one 2) tAll (fOp uEq (fVar 2) (fOp uSub (fVar 0) (fC (.int 1))))) aNil)) aNil))))))
def b_law (C : Calls) : FS :=
    (sSeq (sAsg (.one 1) (fDef 2 (C 12) (aCons (fVar 0) (aCons (fC (.int 200)) aNil))))
    (sSeq (sAsg (.one 2) (fDef 5 (C 13) (aCons (fVar 1) (aCons (fC (.int 20)) (aCons (fOp ixU (fLst (aCons (fOp uMod (fOp ixU (fVar 1) (fC (.int 0))) (fC (.int 5))) (aCons (fC (.int 9)) aNil))) (fCall bInt (aCons (fOp uEq (fOp uMod (fOp ixU (fVar 1) (fC (.int 5))) (fC (.int 10))) (fC (.int 0))) aNil))) (aCons (fOp uMod (fOp ixU (fVar 1) (fC (.int 1))) (fC (.int 11))) (aCons (fOp uMod (fOp ixU (fVar 1) (fC (.int 2))) (fC (.int 4))) aNil)))))))
    (sSeq (sIf (tAn (tstB (fOp uEq (fOp uMod (fOp ixU (fVar 1) (fC (.int 5))) (fC (.int 12))) (fC (.int 5)))) (tstB (fOp uNe (fDef 1 (C 11) (aCons (fDef 1 (C 22) (aCons (fC (.int 300)) aNil)) aNil)) (fDef 1 (C 22) (aCons (fC (.int 300)) aNil))))) (sRet (fC (.bl false))) sNext)
    (sSeq (sIf (tstB (fOp uEq (fOp uMod (fOp ixU (fVar 1) (fC (.int 3))) (fC (.int 3))) (fC (.int 0)))) (sAsg (.one 2) (fDef 2 (C 21) (aCons (fVar 2) (aCons (fSl (fVar 1) (oSome (fC (.int 60))) oNone) aNil)))) sNext)
    (sSeq (sIf (tstB (fOp uEq (fOp uMod (fOp ixU (fVar 1) (fC (.int 3))) (fC (.int 7))) (fC (.int 0)))) (sAsg (.one 2) (fTup (aCons (fOp ixU (fVar 2) (fC (.int 0))) (aCons (fOp ixU (fVar 2) (fC (.int 1))) (aCons (fCall bTuple (aCons (fLc (iRg1 (fCall bLen (aCons (fOp ixU (fVar 2) (fC (.int 1))) aNil))) [5] (.one 5) tAll (fOp uEq (fVar 5) (fOp uMod (fOp ixU (fVar 1) (fC (.int 4))) (fC (.int 11))))) aNil)) aNil))))) sNext)
    (sSeq (sAsg (.one 3) (fDef 1 (C 11) (aCons (fVar 2) aNil)))
    (sSeq (sIf (tOr' (tNt (tst (fIsi "tuple" (fVar 3)))) (tOr' (tstB (fOp uNe (fCall bLen (aCons (fVar 3) aNil)) (fC (.int 3)))) (tstB (fOp uNotN (fDef 1 (C 10) (aCons (fVar 3) aNil)) (fC .non))))) (sRet (fC (.bl false))) sNext)
    (sSeq (sFor (iSeq (fOp ixU (fVar 3) (fC (.int 2)))) (.one 4) (sIf (tNt (tst (fIsi "bool" (fVar 4)))) (sRet (fC (.bl false))) sNext))
    (sSeq (sIf (tOr' (tstB (fOp uNe (fVar 3) (fDef 1 (C 20) (aCons (fVar 2) aNil)))) (tNt (tst (fDef 2 (C 18) (aCons (fVar 2) (aCons (fVar 3) aNil)))))) (sRet (fC (.bl false))) sNext)
    (sRet (fOp uEq (fDef 1 (C 11) (aCons (fVar 3) aNil)) (fVar 3))))))))))))
def call : Nat → Calls
  | 0 => fun _ _ _ => .bad
  | k + 1 => fun i => match i with
    | 0 => runDef 7 (b_met_from (call k))
    | 1 => runDef 10 (b_live_states (call k))
    | 2 => runDef 9 (b_trimmed (call k))
    | 3 => runDef 3 (b_Blocks_init (call k))
    | 4 => runDef 4 (b_Blocks_move_out (call k))
    | 5 => runDef 8 (b_Blocks_split_by (call k))
    | 6 => runDef 8 (b_sources_by_letter (call k))
    | 7 => runDef 9 (b_blocks_of (call k))
    | 8 => runDef 13 (b_least (call k))
    | 9 => runDef 4 (b_are_moves (call k))
    | 10 => runDef 5 (b_check_machine (call k))
    | 11 => runDef 4 (b_least_machine (call k))
    | 12 => runDef 9 (b__law_numbers (call k))
    | 13 => runDef 12 (b__law_machine (call k))
    | 14 => runDef 3 (b__law_next (call k))
    | 15 => runDef 2 (b__law_ends (call k))
    | 16 => runDef 1 (b__law_first (call k))
    | 17 => runDef 6 (b__law_pairs (call k))
    | 18 => runDef 3 (b__law_alike (call k))
    | 19 => runDef 5 (b__law_useful (call k))
    | 20 => runDef 13 (b__law_least (call k))
    | 21 => runDef 7 (b__law_doubled (call k))
    | 22 => runDef 3 (b__law_line (call k))
    | 23 => runDef 6 (b_law (call k))
    | _ => fun _ _ => .bad
theorem call_law (k : Nat) : call (k + 1) 23 = runDef 6 (b_law (call k)) := rfl
/-! ### what stands in the top -/
structure Facts (K : PySem.W.Frag) (mg : Str → Option Value) (w : World) (ad : Nat → Addr) (fd : Nat → FuncData) : Prop where
  F0 : FnP K "met_from" s_met_from (ad 0) (fd 0)
  b0 : Binds K (fd 0) ["moves", "start"] []
  m0 : mg "met_from" = some (.ref (ad 0))
  F1 : FnP K "live_states" s_live_states (ad 1) (fd 1)
  b1 : Binds K (fd 1) ["moves", "accepting"] []
  m1 : mg "live_states" = some (.ref (ad 1))
  F2 : FnP K "trimmed" s_trimmed (ad 2) (fd 2)
  b2 : Binds K (fd 2) ["moves", "accepting"] []
  m2 : mg "trimmed" = some (.ref (ad 2))
  F3 : FnQ K "__init__" "Blocks.__init__" s_Blocks_init (ad 3) (fd 3)
  b3 : Binds K (fd 3) ["self", "count"] []
  mk_Blocks : Mk K (He.ga K "Blocks") (ad 3)
  F4 : FnQ K "move_out" "Blocks.move_out" s_Blocks_move_out (ad 4) (fd 4)
  b4 : Binds K (fd 4) ["self", "states", "block"] []
  me4 : Meth K (He.ga K "Blocks") "move_out" (ad 4)
  F5 : FnQ K "split_by" "Blocks.split_by" s_Blocks_split_by (ad 5) (fd 5)
  b5 : Binds K (fd 5) ["self", "states"] []
  me5 : Meth K (He.ga K "Blocks") "split_by" (ad 5)
  F6 : FnP K "sources_by_letter" s_sources_by_letter (ad 6) (fd 6)
  b6 : Binds K (fd 6) ["letters", "moves"] []
  m6 : mg "sources_by_letter" = some (.ref (ad 6))
  F7 : FnP K "blocks_of" s_blocks_of (ad 7) (fd 7)
  b7 : Binds K (fd 7) ["letters", "moves", "accepting"] []
  m7 : mg "blocks_of" = some (.ref (ad 7))
  F8 : FnP K "least" s_least (ad 8) (fd 8)
  b8 : Binds K (fd 8) ["letters", "moves", "accepting"] []
  m8 : mg "least" = some (.ref (ad 8))
  F9 : FnP K "are_moves" s_are_moves (ad 9) (fd 9)
  b9 : Binds K (fd 9) ["entry", "letters", "states"] []
  m9 : mg "are_moves" = some (.ref (ad 9))
  F10 : FnP K "check_machine" s_check_machine (ad 10) (fd 10)
  b10 : Binds K (fd 10) ["machine"] []
  m10 : mg "check_machine" = some (.ref (ad 10))
  F11 : FnP K "least_machine" s_least_machine (ad 11) (fd 11)
  b11 : Binds K (fd 11) ["machine"] []
  m11 : mg "least_machine" = some (.ref (ad 11))
  F12 : FnP K "_law_numbers" s__law_numbers (ad 12) (fd 12)
  b12 : Binds K (fd 12) ["script", "many"] []
  m12 : mg "_law_numbers" = some (.ref (ad 12))
  F13 : FnP K "_law_machine" s__law_machine (ad 13) (fd 13)
  b13 : Binds K (fd 13) ["numbers", "at", "letters", "states", "gaps"] []
  m13 : mg "_law_machine" = some (.ref (ad 13))
  F14 : FnP K "_law_next" s__law_next (ad 14) (fd 14)
  b14 : Binds K (fd 14) ["machine", "state", "letter"] []
  m14 : mg "_law_next" = some (.ref (ad 14))
  F15 : FnP K "_law_ends" s__law_ends (ad 15) (fd 15)
  b15 : Binds K (fd 15) ["machine", "state"] []
  m15 : mg "_law_ends" = some (.ref (ad 15))
  F16 : FnP K "_law_first" s__law_first (ad 16) (fd 16)
  b16 : Binds K (fd 16) ["machine"] []
  m16 : mg "_law_first" = some (.ref (ad 16))
  F17 : FnP K "_law_pairs" s__law_pairs (ad 17) (fd 17)
  b17 : Binds K (fd 17) ["first", "second"] []
  m17 : mg "_law_pairs" = some (.ref (ad 17))
  F18 : FnP K "_law_alike" s__law_alike (ad 18) (fd 18)
  b18 : Binds K (fd 18) ["first", "second"] []
  m18 : mg "_law_alike" = some (.ref (ad 18))
  F19 : FnP K "_law_useful" s__law_useful (ad 19) (fd 19)
  b19 : Binds K (fd 19) ["machine"] []
  m19 : mg "_law_useful" = some (.ref (ad 19))
  F20 : FnP K "_law_least" s__law_least (ad 20) (fd 20)
  b20 : Binds K (fd 20) ["machine"] []
  m20 : mg "_law_least" = some (.ref (ad 20))
  F21 : FnP K "_law_doubled" s__law_doubled (ad 21) (fd 21)
  b21 : Binds K (fd 21) ["machine", "numbers"] []
  m21 : mg "_law_doubled" = some (.ref (ad 21))
  F22 : FnP K "_law_line" s__law_line (ad 22) (fd 22)
  b22 : Binds K (fd 22) ["states"] []
  m22 : mg "_law_line" = some (.ref (ad 22))
  F23 : FnP K "law" s_law (ad 23) (fd 23)
  b23 : Binds K (fd 23) ["script"] []
  m23 : mg "law" = some (.ref (ad 23))
  gl_Blocks : mg "Blocks" = some (.ref (He.ga K "Blocks"))
  cl_Blocks : Cls K (He.ga K "Blocks")
  na_Blocks_block_of : NoAttr K (He.ga K "Blocks") "block_of"
  na_Blocks_members : NoAttr K (He.ga K "Blocks") "members"
  na_Blocks_pending : NoAttr K (He.ga K "Blocks") "pending"
  z_abs : mg "abs" = none
  z_all : mg "all" = none
  z_bool : mg "bool" = none
  z_enumerate : mg "enumerate" = none
  z_int : mg "int" = none
  z_isinstance : mg "isinstance" = none
  z_len : mg "len" = none
  z_list : mg "list" = none
  z_max : mg "max" = none
  z_min : mg "min" = none
  z_range : mg "range" = none
  z_tuple : mg "tuple" = none
  c_MAX_MACHINE : GlobC K mg "MAX_MACHINE" (.int 400)
  c_MAX_SIGNS : GlobC K mg "MAX_SIGNS" (.int 200)
  x_NotAllowed : Exn K mg "NotAllowed"
structure Tab (P : Program) (w : World) (K : PySem.W.Frag) (mg : Str → Option Value) (base : Heap) (ad : Nat → Addr) (fd : Nat → FuncData) (k : Nat) (C : Calls) : Prop where
  G0 : FnD P w K mg base (L2.CX P w) (k + 1) (ad 0) (fd 0) ["moves", "start"] (spF K mg 2 (C 0))
  G1 : FnD P w K mg base (L2.CX P w) (k + 1) (ad 1) (fd 1) ["moves", "accepting"] (spF K mg 2 (C 1))
  G2 : FnD P w K mg base (L2.CX P w) (k + 1) (ad 2) (fd 2) ["moves", "accepting"] (spF K mg 2 (C 2))
  G3 : FnD P w K mg base (L2.CX P w) k (ad 3) (fd 3) ["self", "count"] (spF K mg 2 (C 3))
  G4 : FnD P w K mg base (L2.CX P w) (k + 1) (ad 4) (fd 4) ["self", "states", "block"] (spF K mg 3 (C 4))
  G5 : FnD P w K mg base (L2.CX P w) (k + 1) (ad 5) (fd 5) ["self", "states"] (spF K mg 2 (C 5))
  G6 : FnD P w K mg base (L2.CX P w) (k + 1) (ad 6) (fd 6) ["letters", "moves"] (spF K mg 2 (C 6))
  G7 : FnD P w K mg base (L2.CX P w) (k + 1) (ad 7) (fd 7) ["letters", "moves", "accepting"] (spF K mg 3 (C 7))
  G8 : FnD P w K mg base (L2.CX P w) (k + 1) (ad 8) (fd 8) ["letters", "moves", "accepting"] (spF K mg 3 (C 8))
  G9 : FnD P w K mg base (L2.CX P w) (k + 1) (ad 9) (fd 9) ["entry", "letters", "states"] (spF K mg 3 (C 9))
  G10 : FnD P w K mg base (L2.CX P w) (k + 1) (ad 10) (fd 10) ["machine"] (spF K mg 1 (C 10))
  G11 : FnD P w K mg base (L2.CX P w) (k + 1) (ad 11) (fd 11) ["machine"] (spF K mg 1 (C 11))
  G12 : FnD P w K mg base (L2.CX P w) (k + 1) (ad 12) (fd 12) ["script", "many"] (spF K mg 2 (C 12))
  G13 : FnD P w K mg base (L2.CX P w) (k + 1) (ad 13) (fd 13) ["numbers", "at", "letters", "states", "gaps"] (spF K mg 5 (C 13))
  G14 : FnD P w K mg base (L2.CX P w) (k + 1) (ad 14) (fd 14) ["machine", "state", "letter"] (spF K mg 3 (C 14))
  G15 : FnD P w K mg base (L2.CX P w) (k + 1) (ad 15) (fd 15) ["machine", "state"] (spF K mg 2 (C 15))
  G16 : FnD P w K mg base (L2.CX P w) (k + 1) (ad 16) (fd 16) ["machine"] (spF K mg 1 (C 16))
  G17 : FnD P w K mg base (L2.CX P w) (k + 1) (ad 17) (fd 17) ["first", "second"] (spF K mg 2 (C 17))
  G18 : FnD P w K mg base (L2.CX P w) (k + 1) (ad 18) (fd 18) ["first", "second"] (spF K mg 2 (C 18))
  G19 : FnD P w K mg base (L2.CX P w) (k + 1) (ad 19) (fd 19) ["machine"] (spF K mg 1 (C 19))
  G20 : FnD P w K mg base (L2.CX P w) (k + 1) (ad 20) (fd 20) ["machine"] (spF K mg 1 (C 20))
  G21 : FnD P w K mg base (L2.CX P w) (k + 1) (ad 21) (fd 21) ["machine", "numbers"] (spF K mg 2 (C 21))
  G22 : FnD P w K mg base (L2.CX P w) (k + 1) (ad 22) (fd 22) ["states"] (spF K mg 1 (C 22))
  G23 : FnD P w K mg base (L2.CX P w) (k + 1) (ad 23) (fd 23) ["script"] (spF K mg 1 (C 23))
section
variable {P : Program} {w : World} {K : PySem.W.Frag} {mg : Str → Option Value} {base : Heap} {ad : Nat → Addr} {fd : Nat → FuncData} {k : Nat} {C : Calls}
end
end Lw
namespace Lw
open PySem PySem.Spec PyProof.Rows L2 RZ Dg
section
variable {P : Program} {w : World} {K : PySem.W.Frag} {mg : Str → Option Value} {base : Heap} {ad : Nat → Addr} {fd : Nat → FuncData} {k : Nat} {C : Calls}
theorem ok_met_from (Fx : Facts K mg w ad fd) (T : Tab P w K mg base ad fd (k + 40) C) : FnD P w K mg base (L2.CX P w) (k + 42) (ad 0) (fd 0) ["moves", "start"] (spF K mg 2 (runDef 7 (b_met_from C))) :=
  defD_ok (N := N_met_from) (ps := ["moves", "start"]) Fx.F0 sc_met_from (fun cdv A outer s H E G =>
    (css_cons (cs_set (i := 2) sc_met_from.nd rfl (Or.inl rfl) (ce_lst (ca_cons (ce_var 1) ca_nil)))
    (css_cons (cs_set (i := 3) sc_met_from.nd rfl (Or.inl rfl) (ce_disp (.cons (ce_var 1) ce_bl .nil)))
    (css_cons (cs_set (i := 4) sc_met_from.nd rfl (Or.inl rfl) ce_int)
    (css_cons (cs_while fuelF G (ct_cmp os_lt (ce_var 4) (ce_callB cs_len rfl Fx.z_len bt_len (ca_cons (ce_var 2) ca_nil) (fun hc ha => pe_callB hc rfl Fx.z_len bt_len ha)) (nomark _)) (css_cons (cs_set (i := 5) sc_met_from.nd rfl (Or.inl rfl) (ce_sub G (ce_var 0) (ce_sub G (ce_var 2) (ce_var 4))))
    (css_cons (cs_for G (ci_seq (ce_var 5)) (cg_one (i := 6) sc_met_from.nd rfl (Or.inl rfl)) (css_one (cs_if (CW.ct (cw_and (ct_cmp (os_ne G) (ce_var 6) (ce_neg ce_int) (nomark _)) (cw_and1 (ct_cmp (os_nin G) (ce_var 6) (ce_var 3) (by rfl))))) (css_cons (cs_store G (ce_var 3) (ce_var 6) ce_bl (fun ho hi he => ps_asg he (pg_sub ho hi set_list)) (fun ho hi he => ps_dput G.hu ho hi he rfl))
    (css_one (cs_expr (ce_mtL gs_append (ce_var 2) (ca_cons (ce_var 6) ca_nil) (fun hm ho ha => pe_bm PySem.F.plainAttrs_list PySem.F.slot_list_append PySem.F.type_list_append hm ho ha))))) css_nil)))
    (css_one (cs_aug (i := 4) sc_met_from.nd rfl (Or.inl rfl) ce_int ip_add (hp := fun he => ps_aug (i := 4) sc_met_from.nd rfl (Or.inl rfl) he ip_add))))))
    (css_one (cs_ret (ce_var 2))))))))
end
end Lw
namespace Lw
open PySem PySem.Spec PyProof.Rows L2 RZ Dg
section
variable {P : Program} {w : World} {K : PySem.W.Frag} {mg : Str → Option Value} {base : Heap} {ad : Nat → Addr} {fd : Nat → FuncData} {k : Nat} {C : Calls}
theorem ok_live_states (Fx : Facts K mg w ad fd) (T : Tab P w K mg base ad fd (k + 40) C) : FnD P w K mg base (L2.CX P w) (k + 42) (ad 1) (fd 1) ["moves", "accepting"] (spF K mg 2 (runDef 10 (b_live_states C))) :=
  defD_ok (N := N_live_states) (ps := ["moves", "accepting"]) Fx.F1 sc_live_states (fun cdv A outer s H E G =>
    (css_cons (cs_setLc (i := 2) (own := [("_", 9)]) G sc_live_states.nd rfl rfl (sw_true rfl rfl rfl (by decide +kernel)) (blkOk_by (own := [("_", 9)]) (N := N_live_states) (sc := defScope s_live_states) (by decide +kernel)) (ci_seq (ce_var 0)) (fun s0 H0 C0 cl fp => (cg_one (i := 9) sc_live_states.nd rfl (Or.inl rfl))) (fun s0 H0 C0 cl fp => cts_nil) (fun s0 H0 C0 cl fp => (ce_lst ca_nil)) rfl (fun hi hg ht he => ps_setLc (i := 2) (own := [("_", 9)]) G.calm sc_live_states.nd rfl rfl (sw_true rfl rfl rfl (by decide +kernel)) hi (blkOk_by (own := [("_", 9)]) (N := N_live_states) (sc := defScope s_live_states) (by decide +kernel)) hg ht he))
    (css_cons (cs_for G (ci_enumB (ci_enum (ce_var 0) (fun ha => pi_enum rfl Fx.z_enumerate ha)) (ci_enumA (ce_var 0) (fun ha => pi_enumT rfl Fx.z_enumerate ha))) (cg_tup G.calm (cgs_cons (cg_one (i := 3) sc_live_states.nd rfl (Or.inl rfl)) (cgs_cons (cg_one (i := 4) sc_live_states.nd rfl (Or.inl rfl)) cgs_nil))) (css_one (cs_for G (ci_seq (ce_var 4)) (cg_one (i := 5) sc_live_states.nd rfl (Or.inl rfl)) (css_one (cs_if (ct_cmp (os_ne G) (ce_var 5) (ce_neg ce_int) (nomark _)) (css_one (cs_expr (ce_mtL gs_append (ce_sub G (ce_var 2) (ce_var 5)) (ca_cons (ce_var 3) ca_nil) (fun hm ho ha => pe_bm PySem.F.plainAttrs_list PySem.F.slot_list_append PySem.F.type_list_append hm ho ha)))) css_nil)))))
    (css_cons (cs_setLc (i := 6) (own := [("state", 3)]) G sc_live_states.nd rfl rfl (sw_true rfl rfl rfl (by decide +kernel)) (blkOk_by (own := [("state", 3)]) (N := N_live_states) (sc := defScope s_live_states) (by decide +kernel)) (ci_rg1 rfl Fx.z_range (ce_callB cs_len rfl Fx.z_len bt_len (ca_cons (ce_var 0) ca_nil) (fun hc ha => pe_callB hc rfl Fx.z_len bt_len ha))) (fun s0 H0 C0 cl fp => (cg_one (i := 3) sc_live_states.nd rfl (Or.inl rfl))) (fun s0 H0 C0 cl fp => have G := Good.blk (s := s0) (H := H0) (fp := fp) G; (cts_one (ct_val (ce_sub G (ce_var 1) (ce_var 3))))) (fun s0 H0 C0 cl fp => (ce_var 3)) rfl (fun hi hg ht he => ps_setLc (i := 6) (own := [("state", 3)]) G.calm sc_live_states.nd rfl rfl (sw_true rfl rfl rfl (by decide +kernel)) hi (blkOk_by (own := [("state", 3)]) (N := N_live_states) (sc := defScope s_live_states) (by decide +kernel)) hg ht he))
    (css_cons (cs_setDcK (W0 := fun _ _ _ _ => False) (i := 7) (own := [("state", 3)]) G sc_live_states.nd rfl rfl (sw_trueD rfl rfl rfl (by decide +kernel)) (blkOk_by (own := [("state", 3)]) (N := N_live_states) (sc := defScope s_live_states) (by decide +kernel)) (ci_seq (ce_var 6)) (fun s0 H0 C0 cl fp => (cg_one (i := 3) sc_live_states.nd rfl (Or.inl rfl))) (fun s0 H0 C0 cl fp => cts_nil) (fun s0 H0 C0 cl fp => (ce_var 3)) (fun s0 H0 C0 cl fp => ce_bl) rfl)
    (css_cons (cs_while fuelF G (ct_val (ce_var 6)) (css_cons (cs_set (i := 8) sc_live_states.nd rfl (Or.inl rfl) (ce_sub G (ce_var 2) (ce_mtL0 gs_pop (ce_var 6) (fun hm ho => pe_bm0 PySem.F.plainAttrs_list PySem.F.slot_list_pop PySem.F.type_list_pop hm ho))))
    (css_one (cs_for G (ci_seq (ce_var 8)) (cg_one (i := 3) sc_live_states.nd rfl (Or.inl rfl)) (css_one (cs_if (ct_cmp (os_nin G) (ce_var 3) (ce_var 7) (by rfl)) (css_cons (cs_store G (ce_var 7) (ce_var 3) ce_bl (fun ho hi he => ps_asg he (pg_sub ho hi set_list)) (fun ho hi he => ps_dput G.hu ho hi he rfl))
    (css_one (cs_expr (ce_mtL gs_append (ce_var 6) (ca_cons (ce_var 3) ca_nil) (fun hm ho ha => pe_bm PySem.F.plainAttrs_list PySem.F.slot_list_append PySem.F.type_list_append hm ho ha))))) css_nil))))))
    (css_one (cs_ret (ce_var 7)))))))))
end
end Lw
namespace Lw
open PySem PySem.Spec PyProof.Rows L2 RZ Dg
section
variable {P : Program} {w : World} {K : PySem.W.Frag} {mg : Str → Option Value} {base : Heap} {ad : Nat → Addr} {fd : Nat → FuncData} {k : Nat} {C : Calls}
theorem ok_trimmed (Fx : Facts K mg w ad fd) (T : Tab P w K mg base ad fd (k + 40) C) : FnD P w K mg base (L2.CX P w) (k + 42) (ad 2) (fd 2) ["moves", "accepting"] (spF K mg 2 (runDef 9 (b_trimmed C))) :=
  defD_ok (N := N_trimmed) (ps := ["moves", "accepting"]) Fx.F2 sc_trimmed (fun cdv A outer s H E G =>
    (css_cons (cs_set (i := 2) sc_trimmed.nd rfl (Or.inr rfl) (ce_def G (Nat.le_refl _) T.G1 (ca_cons (ce_var 0) (ca_cons (ce_var 1) ca_nil)) (fun hx ha => pd_callS T.G1 G.room rfl Fx.m1 Fx.F1.kp Fx.b1 hx ha)))
    (css_cons (cs_if (ct_cmp (os_nin G) ce_int (ce_var 2) (by rfl)) (css_one (cs_ret (ce_tup (ca_cons (ce_lst ca_nil) (ca_cons (ce_lst ca_nil) ca_nil))))) css_nil)
    (css_cons (cs_setLc (i := 3) (own := [("state", 6)]) G sc_trimmed.nd rfl rfl (sw_true rfl rfl rfl (by decide +kernel)) (blkOk_by (own := [("state", 6)]) (N := N_trimmed) (sc := defScope s_trimmed) (by decide +kernel)) (ci_seq (ce_def G (Nat.le_refl _) T.G0 (ca_cons (ce_var 0) (ca_cons ce_int ca_nil)) (fun hx ha => pd_callS T.G0 G.room rfl Fx.m0 Fx.F0.kp Fx.b0 hx ha))) (fun s0 H0 C0 cl fp => (cg_one (i := 6) sc_trimmed.nd rfl (Or.inl rfl))) (fun s0 H0 C0 cl fp => have G := Good.blk (s := s0) (H := H0) (fp := fp) G; (cts_one (ct_cmp (os_in G) (ce_var 6) (ce_var 2) (by rfl)))) (fun s0 H0 C0 cl fp => (ce_var 6)) rfl (fun hi hg ht he => ps_setLc (i := 3) (own := [("state", 6)]) G.calm sc_trimmed.nd rfl rfl (sw_true rfl rfl rfl (by decide +kernel)) hi (blkOk_by (own := [("state", 6)]) (N := N_trimmed) (sc := defScope s_trimmed) (by decide +kernel)) hg ht he))
    (css_cons (cs_set (i := 4) sc_trimmed.nd rfl (Or.inr rfl) (ce_dcK (W0 := fun _ _ _ _ => False) (own := [("number", 7), ("state", 6)]) G sc_trimmed.nd (blkOk_by (own := [("number", 7), ("state", 6)]) (N := N_trimmed) (sc := defScope s_trimmed) (by decide +kernel)) (ci_enum (ce_var 3) (fun ha => pi_enum rfl Fx.z_enumerate ha)) (fun s0 H0 C0 cl fp => have G := Good.blk (s := s0) (H := H0) (fp := fp) G; (cg_tup G.calm (cgs_cons (cg_one (i := 7) sc_trimmed.nd rfl (Or.inl rfl)) (cgs_cons (cg_one (i := 6) sc_trimmed.nd rfl (Or.inl rfl)) cgs_nil)))) (fun s0 H0 C0 cl fp => cts_nil) (fun s0 H0 C0 cl fp => (ce_var 6)) (fun s0 H0 C0 cl fp => (ce_var 7)) rfl))
    (css_cons (cs_setLc (i := 5) (own := [("state", 6)]) G sc_trimmed.nd rfl rfl (sw_true rfl rfl rfl (by decide +kernel)) (blkOk_by (own := [("state", 6)]) (N := N_trimmed) (sc := defScope s_trimmed) (by decide +kernel)) (ci_seq (ce_var 3)) (fun s0 H0 C0 cl fp => (cg_one (i := 6) sc_trimmed.nd rfl (Or.inl rfl))) (fun s0 H0 C0 cl fp => cts_nil) (fun s0 H0 C0 cl fp => have G := Good.blk (s := s0) (H := H0) (fp := fp) G; (ce_lc (own := [("target", 8)]) G sc_trimmed.nd (blkOk_in (blkOk_by (own := [("target", 8)]) (N := N_trimmed) (by decide +kernel))) (ci_seq (ce_sub G (ce_var 0) (ce_var 6))) (fun s0 H0 C0 cl fp => (cg_one (i := 8) sc_trimmed.nd rfl (Or.inl rfl))) (fun s0 H0 C0 cl fp => cts_nil) (fun s0 H0 C0 cl fp => have G := Good.blk (s := s0) (H := H0) (fp := fp) G; (ce_get G (ce_var 4) (ce_var 8) (ce_neg ce_int) ⟨rfl, rfl, rfl, rfl⟩)) rfl)) rfl (fun hi hg ht he => ps_setLc (i := 5) (own := [("state", 6)]) G.calm sc_trimmed.nd rfl rfl (sw_true rfl rfl rfl (by decide +kernel)) hi (blkOk_by (own := [("state", 6)]) (N := N_trimmed) (sc := defScope s_trimmed) (by decide +kernel)) hg ht he))
    (css_one (cs_ret (ce_tup (ca_cons (ce_var 5) (ca_cons (ce_lc (own := [("state", 6)]) G sc_trimmed.nd (blkOk_by (own := [("state", 6)]) (N := N_trimmed) (sc := defScope s_trimmed) (by decide +kernel)) (ci_seq (ce_var 3)) (fun s0 H0 C0 cl fp => (cg_one (i := 6) sc_trimmed.nd rfl (Or.inl rfl))) (fun s0 H0 C0 cl fp => cts_nil) (fun s0 H0 C0 cl fp => have G := Good.blk (s := s0) (H := H0) (fp := fp) G; (ce_sub G (ce_var 1) (ce_var 6))) rfl) ca_nil)))))))))))
end
end Lw
namespace Lw
open PySem PySem.Spec PyProof.Rows L2 RZ Dg
section
variable {P : Program} {w : World} {K : PySem.W.Frag} {mg : Str → Option Value} {base : Heap} {ad : Nat → Addr} {fd : Nat → FuncData} {k : Nat} {C : Calls}
theorem ok_Blocks_init (Fx : Facts K mg w ad fd) (T : Tab P w K mg base ad fd (k + 40) C) : FnD P w K mg base (L2.CX P w) (k + 41) (ad 3) (fd 3) ["self", "count"] (spF K mg 2 (runDef 3 (b_Blocks_init C))) :=
  defQ_ok (N := N_Blocks_init) (ps := ["self", "count"]) Fx.F3 sc_Blocks_init (fun cdv A outer s H E G =>
    (css_cons (cs_fld Fx.cl_Blocks Fx.na_Blocks_block_of (ce_var 0) (ce_op os_mul (ce_lst (ca_cons ce_int ca_nil)) (ce_var 1)))
    (css_cons (cs_fld Fx.cl_Blocks Fx.na_Blocks_members (ce_var 0) (ce_lst (ca_cons (ce_dcK (W0 := fun _ _ _ _ => False) (own := [("state", 2)]) G sc_Blocks_init.nd (blkOk_by (own := [("state", 2)]) (N := N_Blocks_init) (sc := defScope s_Blocks_init) (by decide +kernel)) (ci_rg1 rfl Fx.z_range (ce_var 1)) (fun s0 H0 C0 cl fp => (cg_one (i := 2) sc_Blocks_init.nd rfl (Or.inl rfl))) (fun s0 H0 C0 cl fp => cts_nil) (fun s0 H0 C0 cl fp => (ce_var 2)) (fun s0 H0 C0 cl fp => ce_bl) rfl) ca_nil)))
    (css_one (cs_fld Fx.cl_Blocks Fx.na_Blocks_pending (ce_var 0) (ce_lst (ca_cons ce_int ca_nil)))))))
end
end Lw
namespace Lw
open PySem PySem.Spec PyProof.Rows L2 RZ Dg
section
variable {P : Program} {w : World} {K : PySem.W.Frag} {mg : Str → Option Value} {base : Heap} {ad : Nat → Addr} {fd : Nat → FuncData} {k : Nat} {C : Calls}
theorem ok_Blocks_move_out (Fx : Facts K mg w ad fd) (T : Tab P w K mg base ad fd (k + 40) C) : FnD P w K mg base (L2.CX P w) (k + 42) (ad 4) (fd 4) ["self", "states", "block"] (spF K mg 3 (runDef 4 (b_Blocks_move_out C))) :=
  defQ_ok (N := N_Blocks_move_out) (ps := ["self", "states", "block"]) Fx.F4 sc_Blocks_move_out (fun cdv A outer s H E G =>
    (css_cons (cs_for G (ci_seq (ce_var 1)) (cg_one (i := 3) sc_Blocks_move_out.nd rfl (Or.inl rfl)) (css_cons (cs_delK (ce_sub G (ce_fld Fx.cl_Blocks Fx.na_Blocks_members (ce_var 0)) (ce_var 2)) (ce_var 3))
    (css_one (cs_store G (ce_fld Fx.cl_Blocks Fx.na_Blocks_block_of (ce_var 0)) (ce_var 3) (ce_callB cs_len rfl Fx.z_len bt_len (ca_cons (ce_fld Fx.cl_Blocks Fx.na_Blocks_members (ce_var 0)) ca_nil) (fun hc ha => pe_callB hc rfl Fx.z_len bt_len ha)) (fun ho hi he => ps_asg he (pg_sub ho hi set_list)) (fun ho hi he => ps_dput G.hu ho hi he rfl)))))
    (css_cons (cs_expr (ce_mtL gs_append (ce_fld Fx.cl_Blocks Fx.na_Blocks_pending (ce_var 0)) (ca_cons (ce_callB cs_len rfl Fx.z_len bt_len (ca_cons (ce_fld Fx.cl_Blocks Fx.na_Blocks_members (ce_var 0)) ca_nil) (fun hc ha => pe_callB hc rfl Fx.z_len bt_len ha)) ca_nil) (fun hm ho ha => pe_bm PySem.F.plainAttrs_list PySem.F.slot_list_append PySem.F.type_list_append hm ho ha)))
    (css_one (cs_expr (ce_mtL gs_append (ce_fld Fx.cl_Blocks Fx.na_Blocks_members (ce_var 0)) (ca_cons (ce_dcK (W0 := fun _ _ _ _ => False) (own := [("state", 3)]) G sc_Blocks_move_out.nd (blkOk_by (own := [("state", 3)]) (N := N_Blocks_move_out) (sc := defScope s_Blocks_move_out) (by decide +kernel)) (ci_seq (ce_var 1)) (fun s0 H0 C0 cl fp => (cg_one (i := 3) sc_Blocks_move_out.nd rfl (Or.inl rfl))) (fun s0 H0 C0 cl fp => cts_nil) (fun s0 H0 C0 cl fp => (ce_var 3)) (fun s0 H0 C0 cl fp => ce_bl) rfl) ca_nil) (fun hm ho ha => pe_bm PySem.F.plainAttrs_list PySem.F.slot_list_append PySem.F.type_list_append hm ho ha)))))))
end
end Lw
namespace Lw
open PySem PySem.Spec PyProof.Rows L2 RZ Dg
section
variable {P : Program} {w : World} {K : PySem.W.Frag} {mg : Str → Option Value} {base : Heap} {ad : Nat → Addr} {fd : Nat → FuncData} {k : Nat} {C : Calls}
theorem ok_Blocks_split_by (Fx : Facts K mg w ad fd) (T : Tab P w K mg base ad fd (k + 40) C) : FnD P w K mg base (L2.CX P w) (k + 42) (ad 5) (fd 5) ["self", "states"] (spF K mg 2 (runDef 8 (b_Blocks_split_by C))) :=
  defQ_ok (N := N_Blocks_split_by) (ps := ["self", "states"]) Fx.F5 sc_Blocks_split_by (fun cdv A outer s H E G =>
    (css_cons (cs_set (i := 2) sc_Blocks_split_by.nd rfl (Or.inl rfl) ce_d0)
    (css_cons (cs_for G (ci_seq (ce_var 1)) (cg_one (i := 3) sc_Blocks_split_by.nd rfl (Or.inl rfl)) (css_one (cs_expr (ce_mtL gs_append (ce_setd (ce_var 2) (ce_sub G (ce_fld Fx.cl_Blocks Fx.na_Blocks_block_of (ce_var 0)) (ce_var 3)) (ce_lst ca_nil) ⟨rfl, rfl, rfl, rfl⟩) (ca_cons (ce_var 3) ca_nil) (fun hm ho ha => pe_bm PySem.F.plainAttrs_list PySem.F.slot_list_append PySem.F.type_list_append hm ho ha)))))
    (css_one (cs_lock (cs_for G (ci_items (ce_var 2)) (cg_tup G.calm (cgs_cons (cg_one (i := 4) sc_Blocks_split_by.nd rfl (Or.inl rfl)) (cgs_cons (cg_one (i := 5) sc_Blocks_split_by.nd rfl (Or.inl rfl)) cgs_nil))) (css_cons (cs_set (i := 6) sc_Blocks_split_by.nd rfl (Or.inl rfl) (ce_callB cs_len rfl Fx.z_len bt_len (ca_cons (ce_sub G (ce_fld Fx.cl_Blocks Fx.na_Blocks_members (ce_var 0)) (ce_var 4)) ca_nil) (fun hc ha => pe_callB hc rfl Fx.z_len bt_len ha)))
    (css_one (cs_if (ct_cmp os_le (ce_op os_mul ce_int (ce_callB cs_len rfl Fx.z_len bt_len (ca_cons (ce_var 5) ca_nil) (fun hc ha => pe_callB hc rfl Fx.z_len bt_len ha))) (ce_var 6) (nomark _)) (css_one (cs_expr (ce_meth (c := "Blocks") (m := "move_out") G T.G4 (ce_var 0) (ca_cons (ce_var 5) (ca_cons (ce_var 4) ca_nil)) (fun ho ha => pd_meth ho Fx.cl_Blocks Fx.me4 T.G4 G.room Fx.b4 pass_no ha)))) (css_one (cs_if (ct_cmp os_lt (ce_callB cs_len rfl Fx.z_len bt_len (ca_cons (ce_var 5) ca_nil) (fun hc ha => pe_callB hc rfl Fx.z_len bt_len ha)) (ce_var 6) (nomark _)) (css_cons (cs_set (i := 7) sc_Blocks_split_by.nd rfl (Or.inr rfl) (ce_dcK (W0 := fun _ _ _ _ => False) (own := [("state", 3)]) G sc_Blocks_split_by.nd (blkOk_by (own := [("state", 3)]) (N := N_Blocks_split_by) (sc := defScope s_Blocks_split_by) (by decide +kernel)) (ci_seq (ce_var 5)) (fun s0 H0 C0 cl fp => (cg_one (i := 3) sc_Blocks_split_by.nd rfl (Or.inl rfl))) (fun s0 H0 C0 cl fp => cts_nil) (fun s0 H0 C0 cl fp => (ce_var 3)) (fun s0 H0 C0 cl fp => ce_bl) rfl))
    (css_one (cs_expr (ce_meth (c := "Blocks") (m := "move_out") G T.G4 (ce_var 0) (ca_cons (ce_lock (ce_lc (own := [("state", 3)]) G sc_Blocks_split_by.nd (blkOk_by (own := [("state", 3)]) (N := N_Blocks_split_by) (sc := defScope s_Blocks_split_by) (by decide +kernel)) (ci_keys (ce_sub G (ce_fld Fx.cl_Blocks Fx.na_Blocks_members (ce_var 0)) (ce_var 4))) (fun s0 H0 C0 cl fp => (cg_one (i := 3) sc_Blocks_split_by.nd rfl (Or.inl rfl))) (fun s0 H0 C0 cl fp => have G := Good.blk (s := s0) (H := H0) (fp := fp) G; (cts_one (ct_cmp (os_nin G) (ce_var 3) (ce_var 7) (by rfl)))) (fun s0 H0 C0 cl fp => (ce_var 3)) rfl)) (ca_cons (ce_var 4) ca_nil)) (fun ho ha => pd_meth ho Fx.cl_Blocks Fx.me4 T.G4 G.room Fx.b4 pass_no ha))))) css_nil)))))))))))
end
end Lw
namespace Lw
open PySem PySem.Spec PyProof.Rows L2 RZ Dg
section
variable {P : Program} {w : World} {K : PySem.W.Frag} {mg : Str → Option Value} {base : Heap} {ad : Nat → Addr} {fd : Nat → FuncData} {k : Nat} {C : Calls}
theorem ok_sources_by_letter (Fx : Facts K mg w ad fd) (T : Tab P w K mg base ad fd (k + 40) C) : FnD P w K mg base (L2.CX P w) (k + 42) (ad 6) (fd 6) ["letters", "moves"] (spF K mg 2 (runDef 8 (b_sources_by_letter C))) :=
  defD_ok (N := N_sources_by_letter) (ps := ["letters", "moves"]) Fx.F6 sc_sources_by_letter (fun cdv A outer s H E G =>
    (css_cons (cs_setLc (i := 2) (own := [("_", 7)]) G sc_sources_by_letter.nd rfl rfl (sw_true rfl rfl rfl (by decide +kernel)) (blkOk_by (own := [("_", 7)]) (N := N_sources_by_letter) (sc := defScope s_sources_by_letter) (by decide +kernel)) (ci_rg1 rfl Fx.z_range (ce_var 0)) (fun s0 H0 C0 cl fp => (cg_one (i := 7) sc_sources_by_letter.nd rfl (Or.inl rfl))) (fun s0 H0 C0 cl fp => cts_nil) (fun s0 H0 C0 cl fp => ce_d0) rfl (fun hi hg ht he => ps_setLc (i := 2) (own := [("_", 7)]) G.calm sc_sources_by_letter.nd rfl rfl (sw_true rfl rfl rfl (by decide +kernel)) hi (blkOk_by (own := [("_", 7)]) (N := N_sources_by_letter) (sc := defScope s_sources_by_letter) (by decide +kernel)) hg ht he))
    (css_cons (cs_for G (ci_enum (ce_var 1) (fun ha => pi_enum rfl Fx.z_enumerate ha)) (cg_tup G.calm (cgs_cons (cg_one (i := 3) sc_sources_by_letter.nd rfl (Or.inl rfl)) (cgs_cons (cg_one (i := 4) sc_sources_by_letter.nd rfl (Or.inl rfl)) cgs_nil))) (css_one (cs_for G (ci_enum (ce_var 4) (fun ha => pi_enum rfl Fx.z_enumerate ha)) (cg_tup G.calm (cgs_cons (cg_one (i := 5) sc_sources_by_letter.nd rfl (Or.inl rfl)) (cgs_cons (cg_one (i := 6) sc_sources_by_letter.nd rfl (Or.inl rfl)) cgs_nil))) (css_one (cs_if (ct_cmp (os_ne G) (ce_var 6) (ce_neg ce_int) (nomark _)) (css_one (cs_expr (ce_mtL gs_append (ce_setd (ce_sub G (ce_var 2) (ce_var 5)) (ce_var 6) (ce_lst ca_nil) ⟨rfl, rfl, rfl, rfl⟩) (ca_cons (ce_var 3) ca_nil) (fun hm ho ha => pe_bm PySem.F.plainAttrs_list PySem.F.slot_list_append PySem.F.type_list_append hm ho ha)))) css_nil)))))
    (css_one (cs_ret (ce_var 2))))))
end
end Lw
namespace Lw
open PySem PySem.Spec PyProof.Rows L2 RZ Dg
section
variable {P : Program} {w : World} {K : PySem.W.Frag} {mg : Str → Option Value} {base : Heap} {ad : Nat → Addr} {fd : Nat → FuncData} {k : Nat} {C : Calls}
theorem ok_blocks_of (Fx : Facts K mg w ad fd) (T : Tab P w K mg base ad fd (k + 40) C) : FnD P w K mg base (L2.CX P w) (k + 42) (ad 7) (fd 7) ["letters", "moves", "accepting"] (spF K mg 3 (runDef 9 (b_blocks_of C))) :=
  defD_ok (N := N_blocks_of) (ps := ["letters", "moves", "accepting"]) Fx.F7 sc_blocks_of (fun cdv A outer s H E G =>
    (css_cons (cs_set (i := 3) sc_blocks_of.nd rfl (Or.inl rfl) (ce_def G (Nat.le_refl _) T.G6 (ca_cons (ce_var 0) (ca_cons (ce_var 1) ca_nil)) (fun hx ha => pd_callS T.G6 G.room rfl Fx.m6 Fx.F6.kp Fx.b6 hx ha)))
    (css_cons (cs_set (i := 4) sc_blocks_of.nd rfl (Or.inl rfl) (ce_make (c := "Blocks") (x := "Blocks") G T.G3 (ca_cons (ce_callB cs_len rfl Fx.z_len bt_len (ca_cons (ce_var 1) ca_nil) (fun hc ha => pe_callB hc rfl Fx.z_len bt_len ha)) ca_nil) (fun ha => pd_make Fx.mk_Blocks T.G3 G.room rfl Fx.gl_Blocks Fx.b3 pass_no ha)))
    (css_cons (cs_expr (ce_meth (c := "Blocks") (m := "split_by") G T.G5 (ce_var 4) (ca_cons (ce_lc (own := [("state", 7)]) G sc_blocks_of.nd (blkOk_by (own := [("state", 7)]) (N := N_blocks_of) (sc := defScope s_blocks_of) (by decide +kernel)) (ci_rg1 rfl Fx.z_range (ce_callB cs_len rfl Fx.z_len bt_len (ca_cons (ce_var 1) ca_nil) (fun hc ha => pe_callB hc rfl Fx.z_len bt_len ha))) (fun s0 H0 C0 cl fp => (cg_one (i := 7) sc_blocks_of.nd rfl (Or.inl rfl))) (fun s0 H0 C0 cl fp => have G := Good.blk (s := s0) (H := H0) (fp := fp) G; (cts_one (ct_val (ce_sub G (ce_var 2) (ce_var 7))))) (fun s0 H0 C0 cl fp => (ce_var 7)) rfl) ca_nil) (fun ho ha => pd_meth ho Fx.cl_Blocks Fx.me5 T.G5 G.room Fx.b5 pass_no ha)))
    (css_cons (cs_while fuelF G (ct_val (ce_fld Fx.cl_Blocks Fx.na_Blocks_pending (ce_var 4))) (css_cons (cs_set (i := 5) sc_blocks_of.nd rfl (Or.inl rfl) (ce_callT (cs_listD G.calm) rfl Fx.z_list bt_list (ca_cons (ce_sub G (ce_fld Fx.cl_Blocks Fx.na_Blocks_members (ce_var 4)) (ce_mtL0 gs_pop (ce_fld Fx.cl_Blocks Fx.na_Blocks_pending (ce_var 4)) (fun hm ho => pe_bm0 PySem.F.plainAttrs_list PySem.F.slot_list_pop PySem.F.type_list_pop hm ho))) ca_nil) (fun hc ha => pe_callTy hc rfl Fx.z_list bt_list ha)))
    (css_one (cs_for G (ci_seq (ce_var 3)) (cg_one (i := 6) sc_blocks_of.nd rfl (Or.inr rfl)) (css_one (cs_expr (ce_meth (c := "Blocks") (m := "split_by") G T.G5 (ce_var 4) (ca_cons (ce_lc2 (own := [("target", 8), ("state", 7)]) (own1 := [7]) G sc_blocks_of.nd (blkOk_by (own := [("target", 8), ("state", 7)]) (N := N_blocks_of) (sc := defScope s_blocks_of) (by decide +kernel)) (by decide) (ci_seq (ce_var 5)) (fun s0 H0 C0 cl fp => (cg_one (i := 8) sc_blocks_of.nd rfl (Or.inl rfl))) (fun s0 H0 C0 cl fp => have G := Good.blk (s := s0) (H := H0) (fp := fp) G; (ci_seq (ce_get G (ce_var 6) (ce_var 8) (ce_lst ca_nil) ⟨rfl, rfl, rfl, rfl⟩))) (fun s0 H0 C0 cl fp => (cg_one (i := 7) sc_blocks_of.nd rfl (Or.inl rfl))) (fun s0 H0 C0 cl fp => (ce_var 7)) rfl rfl) ca_nil) (fun ho ha => pd_meth ho Fx.cl_Blocks Fx.me5 T.G5 G.room Fx.b5 pass_no ha))))))))
    (css_one (cs_ret (ce_var 4))))))))
end
end Lw
namespace Lw
open PySem PySem.Spec PyProof.Rows L2 RZ Dg
section
variable {P : Program} {w : World} {K : PySem.W.Frag} {mg : Str → Option Value} {base : Heap} {ad : Nat → Addr} {fd : Nat → FuncData} {k : Nat} {C : Calls}
theorem ok_least (Fx : Facts K mg w ad fd) (T : Tab P w K mg base ad fd (k + 40) C) : FnD P w K mg base (L2.CX P w) (k + 42) (ad 8) (fd 8) ["letters", "moves", "accepting"] (spF K mg 3 (runDef 13 (b_least C))) :=
  defD_ok (N := N_least) (ps := ["letters", "moves", "accepting"]) Fx.F8 sc_least (fun cdv A outer s H E G =>
    (css_cons (cs_asg (ce_def G (Nat.le_refl _) T.G2 (ca_cons (ce_var 1) (ca_cons (ce_var 2) ca_nil)) (fun hx ha => pd_callS T.G2 G.room rfl Fx.m2 Fx.F2.kp Fx.b2 hx ha)) (cg_tup G.calm (cgs_cons (cg_one (i := 1) sc_least.nd rfl (Or.inr rfl)) (cgs_cons (cg_one (i := 2) sc_least.nd rfl (Or.inr rfl)) cgs_nil))) (fun he hg => ps_asg he hg))
    (css_cons (cs_if (ct_not (ct_val (ce_var 1))) (css_one (cs_ret (ce_tup (ca_cons (ce_var 0) (ca_cons (ce_tup ca_nil) (ca_cons (ce_tup ca_nil) ca_nil)))))) css_nil)
    (css_cons (cs_set (i := 3) sc_least.nd rfl (Or.inr rfl) (ce_def G (Nat.le_refl _) T.G7 (ca_cons (ce_var 0) (ca_cons (ce_var 1) (ca_cons (ce_var 2) ca_nil))) (fun hx ha => pd_callS T.G7 G.room rfl Fx.m7 Fx.F7.kp Fx.b7 hx ha)))
    (css_cons (cs_set (i := 4) sc_least.nd rfl (Or.inr rfl) (ce_lc (own := [("members", 8)]) G sc_least.nd (blkOk_by (own := [("members", 8)]) (N := N_least) (sc := defScope s_least) (by decide +kernel)) (ci_seq (ce_fld Fx.cl_Blocks Fx.na_Blocks_members (ce_var 3))) (fun s0 H0 C0 cl fp => (cg_one (i := 8) sc_least.nd rfl (Or.inl rfl))) (fun s0 H0 C0 cl fp => cts_nil) (fun s0 H0 C0 cl fp => have G := Good.blk (s := s0) (H := H0) (fp := fp) G; (ce_callB (cs_minK G.calm) rfl Fx.z_min bt_min (ca_cons (ce_var 8) ca_nil) (fun hc ha => pe_callB hc rfl Fx.z_min bt_min ha))) rfl))
    (css_cons (cs_set (i := 5) sc_least.nd rfl (Or.inr rfl) (ce_lc (own := [("state", 9)]) G sc_least.nd (blkOk_by (own := [("state", 9)]) (N := N_least) (sc := defScope s_least) (by decide +kernel)) (ci_seq (ce_var 4)) (fun s0 H0 C0 cl fp => (cg_one (i := 9) sc_least.nd rfl (Or.inl rfl))) (fun s0 H0 C0 cl fp => cts_nil) (fun s0 H0 C0 cl fp => have G := Good.blk (s := s0) (H := H0) (fp := fp) G; (ce_lc (own := [("target", 10)]) G sc_least.nd (blkOk_in (blkOk_by (own := [("target", 10)]) (N := N_least) (by decide +kernel))) (ci_seq (ce_sub G (ce_var 1) (ce_var 9))) (fun s0 H0 C0 cl fp => (cg_one (i := 10) sc_least.nd rfl (Or.inl rfl))) (fun s0 H0 C0 cl fp => cts_nil) (fun s0 H0 C0 cl fp => have G := Good.blk (s := s0) (H := H0) (fp := fp) G; (ce_if (ct_cmp (os_eq G) (ce_var 10) (ce_neg ce_int) (nomark _)) (ce_neg ce_int) (ce_sub G (ce_fld Fx.cl_Blocks Fx.na_Blocks_block_of (ce_var 3)) (ce_var 10)))) rfl)) rfl))
    (css_cons (cs_set (i := 6) sc_least.nd rfl (Or.inl rfl) (ce_def G (Nat.le_refl _) T.G0 (ca_cons (ce_var 5) (ca_cons (ce_sub G (ce_fld Fx.cl_Blocks Fx.na_Blocks_block_of (ce_var 3)) ce_int) ca_nil)) (fun hx ha => pd_callS T.G0 G.room rfl Fx.m0 Fx.F0.kp Fx.b0 hx ha)))
    (css_cons (cs_set (i := 7) sc_least.nd rfl (Or.inr rfl) (ce_dcK (W0 := fun _ _ _ _ => False) (own := [("number", 11), ("block", 12)]) G sc_least.nd (blkOk_by (own := [("number", 11), ("block", 12)]) (N := N_least) (sc := defScope s_least) (by decide +kernel)) (ci_enum (ce_var 6) (fun ha => pi_enum rfl Fx.z_enumerate ha)) (fun s0 H0 C0 cl fp => have G := Good.blk (s := s0) (H := H0) (fp := fp) G; (cg_tup G.calm (cgs_cons (cg_one (i := 11) sc_least.nd rfl (Or.inl rfl)) (cgs_cons (cg_one (i := 12) sc_least.nd rfl (Or.inl rfl)) cgs_nil)))) (fun s0 H0 C0 cl fp => cts_nil) (fun s0 H0 C0 cl fp => (ce_var 12)) (fun s0 H0 C0 cl fp => (ce_var 11)) rfl))
    (css_cons (cs_store G (ce_var 7) (ce_neg ce_int) (ce_neg ce_int) (fun ho hi he => ps_asg he (pg_sub ho hi set_list)) (fun ho hi he => ps_dput G.hu ho hi he rfl))
    (css_one (cs_ret (ce_tup (ca_cons (ce_var 0) (ca_cons (ce_callT cs_tuple rfl Fx.z_tuple bt_tuple (ca_cons (ce_lc (own := [("block", 12)]) G sc_least.nd (blkOk_by (own := [("block", 12)]) (N := N_least) (sc := defScope s_least) (by decide +kernel)) (ci_seq (ce_var 6)) (fun s0 H0 C0 cl fp => (cg_one (i := 12) sc_least.nd rfl (Or.inl rfl))) (fun s0 H0 C0 cl fp => cts_nil) (fun s0 H0 C0 cl fp => have G := Good.blk (s := s0) (H := H0) (fp := fp) G; (ce_callT cs_tuple rfl Fx.z_tuple bt_tuple (ca_cons (ce_lc (own := [("target", 10)]) G sc_least.nd (blkOk_in (blkOk_by (own := [("target", 10)]) (N := N_least) (by decide +kernel))) (ci_seq (ce_sub G (ce_var 5) (ce_var 12))) (fun s0 H0 C0 cl fp => (cg_one (i := 10) sc_least.nd rfl (Or.inl rfl))) (fun s0 H0 C0 cl fp => cts_nil) (fun s0 H0 C0 cl fp => have G := Good.blk (s := s0) (H := H0) (fp := fp) G; (ce_sub G (ce_var 7) (ce_var 10))) rfl) ca_nil) (fun hc ha => pe_callTy hc rfl Fx.z_tuple bt_tuple ha))) rfl) ca_nil) (fun hc ha => pe_callTy hc rfl Fx.z_tuple bt_tuple ha)) (ca_cons (ce_callT cs_tuple rfl Fx.z_tuple bt_tuple (ca_cons (ce_lc (own := [("block", 12)]) G sc_least.nd (blkOk_by (own := [("block", 12)]) (N := N_least) (sc := defScope s_least) (by decide +kernel)) (ci_seq (ce_var 6)) (fun s0 H0 C0 cl fp => (cg_one (i := 12) sc_least.nd rfl (Or.inl rfl))) (fun s0 H0 C0 cl fp => cts_nil) (fun s0 H0 C0 cl fp => have G := Good.blk (s := s0) (H := H0) (fp := fp) G; (ce_sub G (ce_var 2) (ce_sub G (ce_var 4) (ce_var 12)))) rfl) ca_nil) (fun hc ha => pe_callTy hc rfl Fx.z_tuple bt_tuple ha)) ca_nil)))))))))))))))
end
end Lw
namespace Lw
open PySem PySem.Spec PyProof.Rows L2 RZ Dg
section
variable {P : Program} {w : World} {K : PySem.W.Frag} {mg : Str → Option Value} {base : Heap} {ad : Nat → Addr} {fd : Nat → FuncData} {k : Nat} {C : Calls}
theorem ok_are_moves (Fx : Facts K mg w ad fd) (T : Tab P w K mg base ad fd (k + 40) C) : FnD P w K mg base (L2.CX P w) (k + 42) (ad 9) (fd 9) ["entry", "letters", "states"] (spF K mg 3 (runDef 4 (b_are_moves C))) :=
  defD_ok (N := N_are_moves) (ps := ["entry", "letters", "states"]) Fx.F9 sc_are_moves (fun cdv A outer s H E G =>
    (css_one (cs_ret (ce_and (ce_cmp (os_eq G) (ce_callB cs_len rfl Fx.z_len bt_len (ca_cons (ce_var 0) ca_nil) (fun hc ha => pe_callB hc rfl Fx.z_len bt_len ha)) (ce_var 1) (nomark _)) (ce_one (ce_callB (cs_all G.calm) rfl Fx.z_all bt_all (ca_cons (ce_lc (own := [("target", 3)]) G sc_are_moves.nd (blkOk_by (own := [("target", 3)]) (N := N_are_moves) (sc := defScope s_are_moves) (by decide +kernel)) (ci_seq (ce_var 0)) (fun s0 H0 C0 cl fp => (cg_one (i := 3) sc_are_moves.nd rfl (Or.inl rfl))) (fun s0 H0 C0 cl fp => cts_nil) (fun s0 H0 C0 cl fp => (ce_chain os_le os_lt (ce_neg ce_int) (ce_var 3) (ce_var 2) (fun h h2 x y z => pe_chain h h2 x y z))) rfl) ca_nil) (fun hc ha => pe_callB hc rfl Fx.z_all bt_all ha)))))))
end
end Lw
namespace Lw
open PySem PySem.Spec PyProof.Rows L2 RZ Dg
section
variable {P : Program} {w : World} {K : PySem.W.Frag} {mg : Str → Option Value} {base : Heap} {ad : Nat → Addr} {fd : Nat → FuncData} {k : Nat} {C : Calls}
theorem ok_check_machine (Fx : Facts K mg w ad fd) (T : Tab P w K mg base ad fd (k + 40) C) : FnD P w K mg base (L2.CX P w) (k + 42) (ad 10) (fd 10) ["machine"] (spF K mg 1 (runDef 5 (b_check_machine C))) :=
  defD_ok (N := N_check_machine) (ps := ["machine"]) Fx.F10 sc_check_machine (fun cdv A outer s H E G =>
    (css_cons (cs_asg (ce_var 0) (cg_tup G.calm (cgs_cons (cg_one (i := 1) sc_check_machine.nd rfl (Or.inr rfl)) (cgs_cons (cg_one (i := 2) sc_check_machine.nd rfl (Or.inr rfl)) (cgs_cons (cg_one (i := 3) sc_check_machine.nd rfl (Or.inl rfl)) cgs_nil)))) (fun he hg => ps_asg he hg))
    (css_cons (cs_if (ct_not (ct_chain os_le os_le ce_int (ce_var 1) (ce_globC rfl Fx.c_MAX_SIGNS) (fun h h2 x y z => pt_chain h h2 x y z))) (css_one (cs_raiseN G Fx.x_NotAllowed rfl (ce_joined (.cons ce_str (.cons (ce_fmt (ce_globC rfl Fx.c_MAX_SIGNS)) .nil))))) css_nil)
    (css_cons (cs_if (ct_cmp os_gt (ce_callB cs_len rfl Fx.z_len bt_len (ca_cons (ce_var 2) ca_nil) (fun hc ha => pe_callB hc rfl Fx.z_len bt_len ha)) (ce_globC rfl Fx.c_MAX_MACHINE) (nomark _)) (css_one (cs_raiseN G Fx.x_NotAllowed rfl (ce_joined (.cons ce_str (.cons (ce_fmt (ce_globC rfl Fx.c_MAX_MACHINE)) (.cons ce_str .nil)))))) css_nil)
    (css_cons (cs_if (ct_cmp (os_ne G) (ce_callB cs_len rfl Fx.z_len bt_len (ca_cons (ce_var 3) ca_nil) (fun hc ha => pe_callB hc rfl Fx.z_len bt_len ha)) (ce_callB cs_len rfl Fx.z_len bt_len (ca_cons (ce_var 2) ca_nil) (fun hc ha => pe_callB hc rfl Fx.z_len bt_len ha)) (nomark _)) (css_one (cs_raiseN G Fx.x_NotAllowed rfl ce_str)) css_nil)
    (css_one (cs_if (ct_not (ct_val (ce_callB (cs_all G.calm) rfl Fx.z_all bt_all (ca_cons (ce_lc (own := [("entry", 4)]) G sc_check_machine.nd (blkOk_by (own := [("entry", 4)]) (N := N_check_machine) (sc := defScope s_check_machine) (by decide +kernel)) (ci_seq (ce_var 2)) (fun s0 H0 C0 cl fp => (cg_one (i := 4) sc_check_machine.nd rfl (Or.inl rfl))) (fun s0 H0 C0 cl fp => cts_nil) (fun s0 H0 C0 cl fp => have G := Good.blk (s := s0) (H := H0) (fp := fp) G; (ce_def G (Nat.le_refl _) T.G9 (ca_cons (ce_var 4) (ca_cons (ce_var 1) (ca_cons (ce_callB cs_len rfl Fx.z_len bt_len (ca_cons (ce_var 2) ca_nil) (fun hc ha => pe_callB hc rfl Fx.z_len bt_len ha)) ca_nil))) (fun hx ha => pd_callS T.G9 G.room rfl Fx.m9 Fx.F9.kp Fx.b9 hx ha))) rfl) ca_nil) (fun hc ha => pe_callB hc rfl Fx.z_all bt_all ha)))) (css_one (cs_raiseN G Fx.x_NotAllowed rfl ce_str)) css_nil)))))))
end
end Lw
namespace Lw
open PySem PySem.Spec PyProof.Rows L2 RZ Dg
section
variable {P : Program} {w : World} {K : PySem.W.Frag} {mg : Str → Option Value} {base : Heap} {ad : Nat → Addr} {fd : Nat → FuncData} {k : Nat} {C : Calls}
theorem ok_least_machine (Fx : Facts K mg w ad fd) (T : Tab P w K mg base ad fd (k + 40) C) : FnD P w K mg base (L2.CX P w) (k + 42) (ad 11) (fd 11) ["machine"] (spF K mg 1 (runDef 4 (b_least_machine C))) :=
  defD_ok (N := N_least_machine) (ps := ["machine"]) Fx.F11 sc_least_machine (fun cdv A outer s H E G =>
    (css_cons (cs_asg (ce_var 0) (cg_tup G.calm (cgs_cons (cg_one (i := 1) sc_least_machine.nd rfl (Or.inl rfl)) (cgs_cons (cg_one (i := 2) sc_least_machine.nd rfl (Or.inl rfl)) (cgs_cons (cg_one (i := 3) sc_least_machine.nd rfl (Or.inl rfl)) cgs_nil)))) (fun he hg => ps_asg he hg))
    (css_one (cs_ret (ce_def G (Nat.le_refl _) T.G8 (ca_cons (ce_var 1) (ca_cons (ce_var 2) (ca_cons (ce_var 3) ca_nil))) (fun hx ha => pd_callS T.G8 G.room rfl Fx.m8 Fx.F8.kp Fx.b8 hx ha))))))
end
end Lw
namespace Lw
open PySem PySem.Spec PyProof.Rows L2 RZ Dg
section
variable {P : Program} {w : World} {K : PySem.W.Frag} {mg : Str → Option Value} {base : Heap} {ad : Nat → Addr} {fd : Nat → FuncData} {k : Nat} {C : Calls}
theorem ok__law_numbers (Fx : Facts K mg w ad fd) (T : Tab P w K mg base ad fd (k + 40) C) : FnD P w K mg base (L2.CX P w) (k + 42) (ad 12) (fd 12) ["script", "many"] (spF K mg 2 (runDef 9 (b__law_numbers C))) :=
  defD_ok (N := N__law_numbers) (ps := ["script", "many"]) Fx.F12 sc__law_numbers (fun cdv A outer s H E G =>
    (css_cons (cs_set (i := 2) sc__law_numbers.nd rfl (Or.inl rfl) (ce_lst ca_nil))
    (css_cons (cs_for G (ci_rg1 rfl Fx.z_range (ce_callB cs_len rfl Fx.z_len bt_len (ca_cons (ce_var 0) ca_nil) (fun hc ha => pe_callB hc rfl Fx.z_len bt_len ha))) (cg_one (i := 3) sc__law_numbers.nd rfl (Or.inl rfl)) (css_cons (cs_set (i := 4) sc__law_numbers.nd rfl (Or.inl rfl) (ce_callB cs_abs rfl Fx.z_abs bt_abs (ca_cons (ce_callT cs_int rfl Fx.z_int bt_int (ca_cons (ce_sub G (ce_var 0) (ce_var 3)) ca_nil) (fun hc ha => pe_callTy hc rfl Fx.z_int bt_int ha)) ca_nil) (fun hc ha => pe_callB hc rfl Fx.z_abs bt_abs ha)))
    (css_one (cs_if (ct_cmp (os_geX G) (ce_var 4) (ce_op os_pow ce_int ce_int) (nomark _)) (css_one (cs_for G (ci_rg1 rfl Fx.z_range ce_int) (cg_one (i := 5) sc__law_numbers.nd rfl (Or.inl rfl)) (css_one (cs_if (CW.ct (cw_and (ct_cmp os_gt (ce_var 4) ce_int (nomark _)) (cw_and1 (ct_cmp os_lt (ce_callB cs_len rfl Fx.z_len bt_len (ca_cons (ce_var 2) ca_nil) (fun hc ha => pe_callB hc rfl Fx.z_len bt_len ha)) (ce_var 1) (nomark _))))) (css_cons (cs_expr (ce_mtL gs_append (ce_var 2) (ca_cons (ce_op os_mod (ce_var 4) ce_int) ca_nil) (fun hm ho ha => pe_bm PySem.F.plainAttrs_list PySem.F.slot_list_append PySem.F.type_list_append hm ho ha)))
    (css_one (cs_set (i := 4) sc__law_numbers.nd rfl (Or.inl rfl) (ce_op os_fdiv (ce_var 4) ce_int)))) css_nil)))) (css_one (cs_if (ct_cmp os_lt (ce_callB cs_len rfl Fx.z_len bt_len (ca_cons (ce_var 2) ca_nil) (fun hc ha => pe_callB hc rfl Fx.z_len bt_len ha)) (ce_var 1) (nomark _)) (css_cons (cs_set (i := 6) sc__law_numbers.nd rfl (Or.inl rfl) (ce_op os_mod (ce_callT cs_int rfl Fx.z_int bt_int (ca_cons (ce_op os_add (ce_op os_add (ce_op os_mul (ce_var 4) ce_int) (ce_op os_mul (ce_var 3) ce_int)) ce_int) ca_nil) (fun hc ha => pe_callTy hc rfl Fx.z_int bt_int ha)) ce_int))
    (css_one (cs_expr (ce_mtL gs_append (ce_var 2) (ca_cons (ce_op os_fdiv (ce_op os_mod (ce_callT cs_int rfl Fx.z_int bt_int (ca_cons (ce_op os_add (ce_op os_add (ce_op os_mul (ce_var 6) ce_int) (ce_op os_mul ce_int (ce_var 3))) ce_int) ca_nil) (fun hc ha => pe_callTy hc rfl Fx.z_int bt_int ha)) ce_int) ce_int) ca_nil) (fun hm ho ha => pe_bm PySem.F.plainAttrs_list PySem.F.slot_list_append PySem.F.type_list_append hm ho ha))))) css_nil))))))
    (css_cons (cs_set (i := 7) sc__law_numbers.nd rfl (Or.inl rfl) (ce_callB cs_len rfl Fx.z_len bt_len (ca_cons (ce_var 2) ca_nil) (fun hc ha => pe_callB hc rfl Fx.z_len bt_len ha)))
    (css_cons (cs_set (i := 8) sc__law_numbers.nd rfl (Or.inl rfl) (ce_op os_add ce_int (ce_callB cs_len rfl Fx.z_len bt_len (ca_cons (ce_var 0) ca_nil) (fun hc ha => pe_callB hc rfl Fx.z_len bt_len ha))))
    (css_cons (cs_for G (ci_rg1 rfl Fx.z_range (ce_callB (cs_max G.calm) rfl Fx.z_max bt_max (ca_cons ce_int (ca_cons (ce_op os_sub (ce_var 1) (ce_var 7)) ca_nil)) (fun hc ha => pe_callB hc rfl Fx.z_max bt_max ha))) (cg_one (i := 3) sc__law_numbers.nd rfl (Or.inl rfl)) (css_cons (cs_if (ct_cmp os_gt (ce_var 7) ce_int (nomark _)) (css_one (cs_set (i := 8) sc__law_numbers.nd rfl (Or.inl rfl) (ce_op os_add (ce_var 8) (ce_sub G (ce_var 2) (ce_op os_mod (ce_var 3) (ce_var 7)))))) css_nil)
    (css_cons (cs_set (i := 8) sc__law_numbers.nd rfl (Or.inl rfl) (ce_op os_mod (ce_callT cs_int rfl Fx.z_int bt_int (ca_cons (ce_op os_add (ce_op os_mul (ce_var 8) ce_int) (ce_var 3)) ca_nil) (fun hc ha => pe_callTy hc rfl Fx.z_int bt_int ha)) ce_int))
    (css_one (cs_expr (ce_mtL gs_append (ce_var 2) (ca_cons (ce_op os_fdiv (ce_var 8) ce_int) ca_nil) (fun hm ho ha => pe_bm PySem.F.plainAttrs_list PySem.F.slot_list_append PySem.F.type_list_append hm ho ha)))))))
    (css_one (cs_ret (ce_slice (ce_var 2) co_none (co_some (ce_var 1)))))))))))
end
end Lw
namespace Lw
open PySem PySem.Spec PyProof.Rows L2 RZ Dg
section
variable {P : Program} {w : World} {K : PySem.W.Frag} {mg : Str → Option Value} {base : Heap} {ad : Nat → Addr} {fd : Nat → FuncData} {k : Nat} {C : Calls}
theorem ok__law_machine (Fx : Facts K mg w ad fd) (T : Tab P w K mg base ad fd (k + 40) C) : FnD P w K mg base (L2.CX P w) (k + 42) (ad 13) (fd 13) ["numbers", "at", "letters", "states", "gaps"] (spF K mg 5 (runDef 12 (b__law_machine C))) :=
  defD_ok (N := N__law_machine) (ps := ["numbers", "at", "letters", "states", "gaps"]) Fx.F13 sc__law_machine (fun cdv A outer s H E G =>
    (css_cons (cs_set (i := 5) sc__law_machine.nd rfl (Or.inl rfl) (ce_lst ca_nil))
    (css_cons (cs_set (i := 6) sc__law_machine.nd rfl (Or.inl rfl) (ce_lst ca_nil))
    (css_cons (cs_for G (ci_rg1 rfl Fx.z_range (ce_var 3)) (cg_one (i := 7) sc__law_machine.nd rfl (Or.inl rfl)) (css_cons (cs_set (i := 8) sc__law_machine.nd rfl (Or.inl rfl) (ce_lst ca_nil))
    (css_cons (cs_for G (ci_rg1 rfl Fx.z_range (ce_var 2)) (cg_one (i := 9) sc__law_machine.nd rfl (Or.inl rfl)) (css_cons (cs_set (i := 10) sc__law_machine.nd rfl (Or.inl rfl) (ce_sub G (ce_var 0) (ce_op os_mod (ce_callT cs_int rfl Fx.z_int bt_int (ca_cons (ce_op os_add (ce_op os_add (ce_var 1) (ce_op os_mul (ce_var 7) (ce_var 2))) (ce_var 9)) ca_nil) (fun hc ha => pe_callTy hc rfl Fx.z_int bt_int ha)) (ce_callB cs_len rfl Fx.z_len bt_len (ca_cons (ce_var 0) ca_nil) (fun hc ha => pe_callB hc rfl Fx.z_len bt_len ha)))))
    (css_cons (cs_set (i := 11) sc__law_machine.nd rfl (Or.inl rfl) (ce_op os_mod (ce_op os_fdiv (ce_var 10) ce_int) (ce_var 3)))
    (css_cons (cs_if (ct_cmp os_lt (ce_op os_mod (ce_var 10) ce_int) (ce_var 4) (nomark _)) (css_one (cs_set (i := 11) sc__law_machine.nd rfl (Or.inl rfl) (ce_neg ce_int))) css_nil)
    (css_one (cs_expr (ce_mtL gs_append (ce_var 8) (ca_cons (ce_var 11) ca_nil) (fun hm ho ha => pe_bm PySem.F.plainAttrs_list PySem.F.slot_list_append PySem.F.type_list_append hm ho ha))))))))
    (css_cons (cs_expr (ce_mtL gs_append (ce_var 5) (ca_cons (ce_callT cs_tuple rfl Fx.z_tuple bt_tuple (ca_cons (ce_var 8) ca_nil) (fun hc ha => pe_callTy hc rfl Fx.z_tuple bt_tuple ha)) ca_nil) (fun hm ho ha => pe_bm PySem.F.plainAttrs_list PySem.F.slot_list_append PySem.F.type_list_append hm ho ha)))
    (css_one (cs_expr (ce_mtL gs_append (ce_var 6) (ca_cons (ce_cmp (os_eq G) (ce_op os_mod (ce_op os_fdiv (ce_sub G (ce_var 0) (ce_op os_mod (ce_callT cs_int rfl Fx.z_int bt_int (ca_cons (ce_op os_add (ce_op os_add (ce_var 1) ce_int) (ce_var 7)) ca_nil) (fun hc ha => pe_callTy hc rfl Fx.z_int bt_int ha)) (ce_callB cs_len rfl Fx.z_len bt_len (ca_cons (ce_var 0) ca_nil) (fun hc ha => pe_callB hc rfl Fx.z_len bt_len ha)))) ce_int) ce_int) ce_int (nomark _)) ca_nil) (fun hm ho ha => pe_bm PySem.F.plainAttrs_list PySem.F.slot_list_append PySem.F.type_list_append hm ho ha))))))))
    (css_one (cs_ret (ce_tup (ca_cons (ce_var 2) (ca_cons (ce_callT cs_tuple rfl Fx.z_tuple bt_tuple (ca_cons (ce_var 5) ca_nil) (fun hc ha => pe_callTy hc rfl Fx.z_tuple bt_tuple ha)) (ca_cons (ce_callT cs_tuple rfl Fx.z_tuple bt_tuple (ca_cons (ce_var 6) ca_nil) (fun hc ha => pe_callTy hc rfl Fx.z_tuple bt_tuple ha)) ca_nil))))))))))
end
end Lw
namespace Lw
open PySem PySem.Spec PyProof.Rows L2 RZ Dg
section
variable {P : Program} {w : World} {K : PySem.W.Frag} {mg : Str → Option Value} {base : Heap} {ad : Nat → Addr} {fd : Nat → FuncData} {k : Nat} {C : Calls}
theorem ok__law_next (Fx : Facts K mg w ad fd) (T : Tab P w K mg base ad fd (k + 40) C) : FnD P w K mg base (L2.CX P w) (k + 42) (ad 14) (fd 14) ["machine", "state", "letter"] (spF K mg 3 (runDef 3 (b__law_next C))) :=
  defD_ok (N := N__law_next) (ps := ["machine", "state", "letter"]) Fx.F14 sc__law_next (fun cdv A outer s H E G =>
    (css_cons (cs_if (ct_cmp os_lt (ce_var 1) ce_int (nomark _)) (css_one (cs_ret (ce_neg ce_int))) css_nil)
    (css_one (cs_ret (ce_sub G (ce_sub G (ce_sub G (ce_var 0) ce_int) (ce_var 1)) (ce_var 2))))))
end
end Lw
namespace Lw
open PySem PySem.Spec PyProof.Rows L2 RZ Dg
section
variable {P : Program} {w : World} {K : PySem.W.Frag} {mg : Str → Option Value} {base : Heap} {ad : Nat → Addr} {fd : Nat → FuncData} {k : Nat} {C : Calls}
theorem ok__law_ends (Fx : Facts K mg w ad fd) (T : Tab P w K mg base ad fd (k + 40) C) : FnD P w K mg base (L2.CX P w) (k + 42) (ad 15) (fd 15) ["machine", "state"] (spF K mg 2 (runDef 2 (b__law_ends C))) :=
  defD_ok (N := N__law_ends) (ps := ["machine", "state"]) Fx.F15 sc__law_ends (fun cdv A outer s H E G =>
    (css_one (cs_ret (ce_and (ce_cmp (os_geX G) (ce_var 1) ce_int (nomark _)) (ce_one (ce_sub G (ce_sub G (ce_var 0) ce_int) (ce_var 1)))))))
end
end Lw
namespace Lw
open PySem PySem.Spec PyProof.Rows L2 RZ Dg
section
variable {P : Program} {w : World} {K : PySem.W.Frag} {mg : Str → Option Value} {base : Heap} {ad : Nat → Addr} {fd : Nat → FuncData} {k : Nat} {C : Calls}
theorem ok__law_first (Fx : Facts K mg w ad fd) (T : Tab P w K mg base ad fd (k + 40) C) : FnD P w K mg base (L2.CX P w) (k + 42) (ad 16) (fd 16) ["machine"] (spF K mg 1 (runDef 1 (b__law_first C))) :=
  defD_ok (N := N__law_first) (ps := ["machine"]) Fx.F16 sc__law_first (fun cdv A outer s H E G =>
    (css_one (cs_ret (ce_sub G (ce_lst (ca_cons (ce_neg ce_int) (ca_cons ce_int ca_nil))) (ce_callT cs_int rfl Fx.z_int bt_int (ca_cons (ce_cmp os_gt (ce_callB cs_len rfl Fx.z_len bt_len (ca_cons (ce_sub G (ce_var 0) ce_int) ca_nil) (fun hc ha => pe_callB hc rfl Fx.z_len bt_len ha)) ce_int (nomark _)) ca_nil) (fun hc ha => pe_callTy hc rfl Fx.z_int bt_int ha))))))
end
end Lw
namespace Lw
open PySem PySem.Spec PyProof.Rows L2 RZ Dg
section
variable {P : Program} {w : World} {K : PySem.W.Frag} {mg : Str → Option Value} {base : Heap} {ad : Nat → Addr} {fd : Nat → FuncData} {k : Nat} {C : Calls}
theorem ok__law_pairs (Fx : Facts K mg w ad fd) (T : Tab P w K mg base ad fd (k + 40) C) : FnD P w K mg base (L2.CX P w) (k + 42) (ad 17) (fd 17) ["first", "second"] (spF K mg 2 (runDef 6 (b__law_pairs C))) :=
  defD_ok (N := N__law_pairs) (ps := ["first", "second"]) Fx.F17 sc__law_pairs (fun cdv A outer s H E G =>
    (css_cons (cs_set (i := 2) sc__law_pairs.nd rfl (Or.inl rfl) (ce_lst (ca_cons (ce_tup (ca_cons (ce_def G (Nat.le_refl _) T.G16 (ca_cons (ce_var 0) ca_nil) (fun hx ha => pd_callS T.G16 G.room rfl Fx.m16 Fx.F16.kp Fx.b16 hx ha)) (ca_cons (ce_def G (Nat.le_refl _) T.G16 (ca_cons (ce_var 1) ca_nil) (fun hx ha => pd_callS T.G16 G.room rfl Fx.m16 Fx.F16.kp Fx.b16 hx ha)) ca_nil))) ca_nil)))
    (css_cons (cs_for G (ci_rg1 rfl Fx.z_range (ce_op os_mul (ce_op os_add (ce_callB cs_len rfl Fx.z_len bt_len (ca_cons (ce_sub G (ce_var 0) ce_int) ca_nil) (fun hc ha => pe_callB hc rfl Fx.z_len bt_len ha)) ce_int) (ce_op os_add (ce_callB cs_len rfl Fx.z_len bt_len (ca_cons (ce_sub G (ce_var 1) ce_int) ca_nil) (fun hc ha => pe_callB hc rfl Fx.z_len bt_len ha)) ce_int))) (cg_one (i := 3) sc__law_pairs.nd rfl (Or.inl rfl)) (css_one (cs_if (ct_cmp os_lt (ce_var 3) (ce_callB cs_len rfl Fx.z_len bt_len (ca_cons (ce_var 2) ca_nil) (fun hc ha => pe_callB hc rfl Fx.z_len bt_len ha)) (nomark _)) (css_one (cs_for G (ci_rg1 rfl Fx.z_range (ce_sub G (ce_var 0) ce_int)) (cg_one (i := 4) sc__law_pairs.nd rfl (Or.inl rfl)) (css_cons (cs_set (i := 5) sc__law_pairs.nd rfl (Or.inl rfl) (ce_tup (ca_cons (ce_def G (Nat.le_refl _) T.G14 (ca_cons (ce_var 0) (ca_cons (ce_sub G (ce_sub G (ce_var 2) (ce_var 3)) ce_int) (ca_cons (ce_var 4) ca_nil))) (fun hx ha => pd_callS T.G14 G.room rfl Fx.m14 Fx.F14.kp Fx.b14 hx ha)) (ca_cons (ce_def G (Nat.le_refl _) T.G14 (ca_cons (ce_var 1) (ca_cons (ce_sub G (ce_sub G (ce_var 2) (ce_var 3)) ce_int) (ca_cons (ce_var 4) ca_nil))) (fun hx ha => pd_callS T.G14 G.room rfl Fx.m14 Fx.F14.kp Fx.b14 hx ha)) ca_nil))))
    (css_one (cs_if (ct_cmp (os_nin G) (ce_var 5) (ce_var 2) (by rfl)) (css_one (cs_expr (ce_mtL gs_append (ce_var 2) (ca_cons (ce_var 5) ca_nil) (fun hm ho ha => pe_bm PySem.F.plainAttrs_list PySem.F.slot_list_append PySem.F.type_list_append hm ho ha)))) css_nil))))) css_nil)))
    (css_one (cs_ret (ce_var 2))))))
end
end Lw
namespace Lw
open PySem PySem.Spec PyProof.Rows L2 RZ Dg
section
variable {P : Program} {w : World} {K : PySem.W.Frag} {mg : Str → Option Value} {base : Heap} {ad : Nat → Addr} {fd : Nat → FuncData} {k : Nat} {C : Calls}
theorem ok__law_alike (Fx : Facts K mg w ad fd) (T : Tab P w K mg base ad fd (k + 40) C) : FnD P w K mg base (L2.CX P w) (k + 42) (ad 18) (fd 18) ["first", "second"] (spF K mg 2 (runDef 3 (b__law_alike C))) :=
  defD_ok (N := N__law_alike) (ps := ["first", "second"]) Fx.F18 sc__law_alike (fun cdv A outer s H E G =>
    (css_one (cs_ret (ce_callB (cs_all G.calm) rfl Fx.z_all bt_all (ca_cons (ce_lc (own := [("pair", 2)]) G sc__law_alike.nd (blkOk_by (own := [("pair", 2)]) (N := N__law_alike) (sc := defScope s__law_alike) (by decide +kernel)) (ci_seq (ce_def G (Nat.le_refl _) T.G17 (ca_cons (ce_var 0) (ca_cons (ce_var 1) ca_nil)) (fun hx ha => pd_callS T.G17 G.room rfl Fx.m17 Fx.F17.kp Fx.b17 hx ha))) (fun s0 H0 C0 cl fp => (cg_one (i := 2) sc__law_alike.nd rfl (Or.inl rfl))) (fun s0 H0 C0 cl fp => cts_nil) (fun s0 H0 C0 cl fp => have G := Good.blk (s := s0) (H := H0) (fp := fp) G; (ce_cmp (os_eq G) (ce_def G (Nat.le_refl _) T.G15 (ca_cons (ce_var 0) (ca_cons (ce_sub G (ce_var 2) ce_int) ca_nil)) (fun hx ha => pd_callS T.G15 G.room rfl Fx.m15 Fx.F15.kp Fx.b15 hx ha)) (ce_def G (Nat.le_refl _) T.G15 (ca_cons (ce_var 1) (ca_cons (ce_sub G (ce_var 2) ce_int) ca_nil)) (fun hx ha => pd_callS T.G15 G.room rfl Fx.m15 Fx.F15.kp Fx.b15 hx ha)) (nomark _))) rfl) ca_nil) (fun hc ha => pe_callB hc rfl Fx.z_all bt_all ha)))))
end
end Lw
namespace Lw
open PySem PySem.Spec PyProof.Rows L2 RZ Dg
section
variable {P : Program} {w : World} {K : PySem.W.Frag} {mg : Str → Option Value} {base : Heap} {ad : Nat → Addr} {fd : Nat → FuncData} {k : Nat} {C : Calls}
theorem ok__law_useful (Fx : Facts K mg w ad fd) (T : Tab P w K mg base ad fd (k + 40) C) : FnD P w K mg base (L2.CX P w) (k + 42) (ad 19) (fd 19) ["machine"] (spF K mg 1 (runDef 5 (b__law_useful C))) :=
  defD_ok (N := N__law_useful) (ps := ["machine"]) Fx.F19 sc__law_useful (fun cdv A outer s H E G =>
    (css_cons (cs_set (i := 1) sc__law_useful.nd rfl (Or.inl rfl) (ce_callT cs_list rfl Fx.z_list bt_list (ca_cons (ce_sub G (ce_var 0) ce_int) ca_nil) (fun hc ha => pe_callTy hc rfl Fx.z_list bt_list ha)))
    (css_cons (cs_for G (ci_rg1 rfl Fx.z_range (ce_callB cs_len rfl Fx.z_len bt_len (ca_cons (ce_var 1) ca_nil) (fun hc ha => pe_callB hc rfl Fx.z_len bt_len ha))) (cg_one (i := 2) sc__law_useful.nd rfl (Or.inl rfl)) (css_one (cs_for G (ci_rg1 rfl Fx.z_range (ce_callB cs_len rfl Fx.z_len bt_len (ca_cons (ce_var 1) ca_nil) (fun hc ha => pe_callB hc rfl Fx.z_len bt_len ha))) (cg_one (i := 3) sc__law_useful.nd rfl (Or.inl rfl)) (css_one (cs_for G (ci_seq (ce_sub G (ce_sub G (ce_var 0) ce_int) (ce_var 3))) (cg_one (i := 4) sc__law_useful.nd rfl (Or.inl rfl)) (css_one (cs_if (CW.ct (cw_and (ct_cmp (os_geX G) (ce_var 4) ce_int (nomark _)) (cw_and1 (ct_val (ce_sub G (ce_var 1) (ce_var 4)))))) (css_one (cs_store G (ce_var 1) (ce_var 3) ce_bl (fun ho hi he => ps_asg he (pg_sub ho hi set_list)) (fun ho hi he => ps_dput G.hu ho hi he rfl))) css_nil)))))))
    (css_one (cs_ret (ce_var 1))))))
end
end Lw
namespace Lw
open PySem PySem.Spec PyProof.Rows L2 RZ Dg
section
variable {P : Program} {w : World} {K : PySem.W.Frag} {mg : Str → Option Value} {base : Heap} {ad : Nat → Addr} {fd : Nat → FuncData} {k : Nat} {C : Calls}
theorem ok__law_least (Fx : Facts K mg w ad fd) (T : Tab P w K mg base ad fd (k + 40) C) : FnD P w K mg base (L2.CX P w) (k + 42) (ad 20) (fd 20) ["machine"] (spF K mg 1 (runDef 13 (b__law_least C))) :=
  defD_ok (N := N__law_least) (ps := ["machine"]) Fx.F20 sc__law_least (fun cdv A outer s H E G =>
    (css_cons (cs_set (i := 1) sc__law_least.nd rfl (Or.inr rfl) (ce_def G (Nat.le_refl _) T.G19 (ca_cons (ce_var 0) ca_nil) (fun hx ha => pd_callS T.G19 G.room rfl Fx.m19 Fx.F19.kp Fx.b19 hx ha)))
    (css_cons (cs_if (CW.ct (cw_or (ct_cmp (os_eq G) (ce_callB cs_len rfl Fx.z_len bt_len (ca_cons (ce_var 1) ca_nil) (fun hc ha => pe_callB hc rfl Fx.z_len bt_len ha)) ce_int (nomark _)) (cw_or1 (ct_not (ct_val (ce_sub G (ce_var 1) ce_int)))))) (css_one (cs_ret (ce_tup (ca_cons (ce_sub G (ce_var 0) ce_int) (ca_cons (ce_tup ca_nil) (ca_cons (ce_tup ca_nil) ca_nil)))))) css_nil)
    (css_cons (cs_setLc (i := 2) (own := [("state", 5)]) G sc__law_least.nd rfl rfl (sw_true rfl rfl rfl (by decide +kernel)) (blkOk_by (own := [("state", 5)]) (N := N__law_least) (sc := defScope s__law_least) (by decide +kernel)) (ci_rg1 rfl Fx.z_range (ce_callB cs_len rfl Fx.z_len bt_len (ca_cons (ce_var 1) ca_nil) (fun hc ha => pe_callB hc rfl Fx.z_len bt_len ha))) (fun s0 H0 C0 cl fp => (cg_one (i := 5) sc__law_least.nd rfl (Or.inl rfl))) (fun s0 H0 C0 cl fp => cts_nil) (fun s0 H0 C0 cl fp => have G := Good.blk (s := s0) (H := H0) (fp := fp) G; (ce_op os_add (ce_callT cs_int rfl Fx.z_int bt_int (ca_cons (ce_sub G (ce_var 1) (ce_var 5)) ca_nil) (fun hc ha => pe_callTy hc rfl Fx.z_int bt_int ha)) (ce_callT cs_int rfl Fx.z_int bt_int (ca_cons (ce_sub G (ce_sub G (ce_var 0) ce_int) (ce_var 5)) ca_nil) (fun hc ha => pe_callTy hc rfl Fx.z_int bt_int ha)))) rfl (fun hi hg ht he => ps_setLc (i := 2) (own := [("state", 5)]) G.calm sc__law_least.nd rfl rfl (sw_true rfl rfl rfl (by decide +kernel)) hi (blkOk_by (own := [("state", 5)]) (N := N__law_least) (sc := defScope s__law_least) (by decide +kernel)) hg ht he))
    (css_cons (cs_for G (ci_rg1 rfl Fx.z_range (ce_callB cs_len rfl Fx.z_len bt_len (ca_cons (ce_var 1) ca_nil) (fun hc ha => pe_callB hc rfl Fx.z_len bt_len ha))) (cg_one (i := 3) sc__law_least.nd rfl (Or.inl rfl)) (css_cons (cs_set (i := 4) sc__law_least.nd rfl (Or.inr rfl) (ce_lst ca_nil))
    (css_cons (cs_for G (ci_rg1 rfl Fx.z_range (ce_callB cs_len rfl Fx.z_len bt_len (ca_cons (ce_var 1) ca_nil) (fun hc ha => pe_callB hc rfl Fx.z_len bt_len ha))) (cg_one (i := 5) sc__law_least.nd rfl (Or.inl rfl)) (css_cons (cs_set (i := 6) sc__law_least.nd rfl (Or.inl rfl) (ce_lst (ca_cons (ce_sub G (ce_var 2) (ce_var 5)) ca_nil)))
    (css_cons (cs_for G (ci_seq (ce_sub G (ce_sub G (ce_var 0) ce_int) (ce_var 5))) (cg_one (i := 7) sc__law_least.nd rfl (Or.inl rfl)) (css_one (cs_expr (ce_mtL gs_append (ce_var 6) (ca_cons (ce_if (ct_val (ce_sub G (ce_var 1) (ce_var 5))) (ce_sub G (ce_lst (ca_cons ce_int (ca_cons ce_int (ca_cons (ce_sub G (ce_var 2) (ce_var 7)) ca_nil)))) (ce_op os_add ce_int (ce_callT cs_int rfl Fx.z_int bt_int (ca_cons (ce_cmp (os_geX G) (ce_var 7) ce_int (nomark _)) ca_nil) (fun hc ha => pe_callTy hc rfl Fx.z_int bt_int ha)))) ce_int) ca_nil) (fun hm ho ha => pe_bm PySem.F.plainAttrs_list PySem.F.slot_list_append PySem.F.type_list_append hm ho ha)))))
    (css_one (cs_expr (ce_mtL gs_append (ce_var 4) (ca_cons (ce_var 6) ca_nil) (fun hm ho ha => pe_bm PySem.F.plainAttrs_list PySem.F.slot_list_append PySem.F.type_list_append hm ho ha)))))))
    (css_one (cs_setLc (i := 2) (own := [("state", 5)]) G sc__law_least.nd rfl rfl (sw_true rfl rfl rfl (by decide +kernel)) (blkOk_by (own := [("state", 5)]) (N := N__law_least) (sc := defScope s__law_least) (by decide +kernel)) (ci_rg1 rfl Fx.z_range (ce_callB cs_len rfl Fx.z_len bt_len (ca_cons (ce_var 1) ca_nil) (fun hc ha => pe_callB hc rfl Fx.z_len bt_len ha))) (fun s0 H0 C0 cl fp => (cg_one (i := 5) sc__law_least.nd rfl (Or.inl rfl))) (fun s0 H0 C0 cl fp => cts_nil) (fun s0 H0 C0 cl fp => have G := Good.blk (s := s0) (H := H0) (fp := fp) G; (ce_op os_mul (ce_callT cs_int rfl Fx.z_int bt_int (ca_cons (ce_sub G (ce_var 1) (ce_var 5)) ca_nil) (fun hc ha => pe_callTy hc rfl Fx.z_int bt_int ha)) (ce_op os_add ce_int (ce_mtL (gs_indexD G.hu65) (ce_var 4) (ca_cons (ce_sub G (ce_var 4) (ce_var 5)) ca_nil) (fun hm ho ha => pe_bm PySem.F.plainAttrs_list PySem.F.slot_list_index PySem.F.type_list_index hm ho ha))))) rfl (fun hi hg ht he => ps_setLc (i := 2) (own := [("state", 5)]) G.calm sc__law_least.nd rfl rfl (sw_true rfl rfl rfl (by decide +kernel)) hi (blkOk_by (own := [("state", 5)]) (N := N__law_least) (sc := defScope s__law_least) (by decide +kernel)) hg ht he))))))
    (css_cons (cs_set (i := 8) sc__law_least.nd rfl (Or.inl rfl) (ce_lst (ca_cons ce_int ca_nil)))
    (css_cons (cs_set (i := 9) sc__law_least.nd rfl (Or.inl rfl) (ce_lst (ca_cons (ce_sub G (ce_var 2) ce_int) ca_nil)))
    (css_cons (cs_set (i := 10) sc__law_least.nd rfl (Or.inl rfl) (ce_lst ca_nil))
    (css_cons (cs_for G (ci_rg1 rfl Fx.z_range (ce_callB cs_len rfl Fx.z_len bt_len (ca_cons (ce_var 1) ca_nil) (fun hc ha => pe_callB hc rfl Fx.z_len bt_len ha))) (cg_one (i := 11) sc__law_least.nd rfl (Or.inl rfl)) (css_one (cs_if (ct_cmp os_lt (ce_var 11) (ce_callB cs_len rfl Fx.z_len bt_len (ca_cons (ce_var 8) ca_nil) (fun hc ha => pe_callB hc rfl Fx.z_len bt_len ha)) (nomark _)) (css_cons (cs_set (i := 6) sc__law_least.nd rfl (Or.inl rfl) (ce_lst ca_nil))
    (css_cons (cs_for G (ci_seq (ce_sub G (ce_sub G (ce_var 0) ce_int) (ce_sub G (ce_var 8) (ce_var 11)))) (cg_one (i := 7) sc__law_least.nd rfl (Or.inl rfl)) (css_cons (cs_set (i := 12) sc__law_least.nd rfl (Or.inl rfl) ce_int)
    (css_cons (cs_if (ct_cmp (os_geX G) (ce_var 7) ce_int (nomark _)) (css_one (cs_set (i := 12) sc__law_least.nd rfl (Or.inl rfl) (ce_sub G (ce_var 2) (ce_var 7)))) css_nil)
    (css_cons (cs_if (CW.ct (cw_and (ct_cmp os_gt (ce_var 12) ce_int (nomark _)) (cw_and1 (ct_cmp (os_nin G) (ce_var 12) (ce_var 9) (by rfl))))) (css_cons (cs_expr (ce_mtL gs_append (ce_var 9) (ca_cons (ce_var 12) ca_nil) (fun hm ho ha => pe_bm PySem.F.plainAttrs_list PySem.F.slot_list_append PySem.F.type_list_append hm ho ha)))
    (css_one (cs_expr (ce_mtL gs_append (ce_var 8) (ca_cons (ce_var 7) ca_nil) (fun hm ho ha => pe_bm PySem.F.plainAttrs_list PySem.F.slot_list_append PySem.F.type_list_append hm ho ha))))) css_nil)
    (css_one (cs_expr (ce_mtL gs_append (ce_var 6) (ca_cons (ce_if (ct_cmp (os_eq G) (ce_var 12) ce_int (nomark _)) (ce_neg ce_int) (ce_mtL gs_index (ce_var 9) (ca_cons (ce_var 12) ca_nil) (fun hm ho ha => pe_bm PySem.F.plainAttrs_list PySem.F.slot_list_index PySem.F.type_list_index hm ho ha))) ca_nil) (fun hm ho ha => pe_bm PySem.F.plainAttrs_list PySem.F.slot_list_append PySem.F.type_list_append hm ho ha))))))))
    (css_one (cs_expr (ce_mtL gs_append (ce_var 10) (ca_cons (ce_callT cs_tuple rfl Fx.z_tuple bt_tuple (ca_cons (ce_var 6) ca_nil) (fun hc ha => pe_callTy hc rfl Fx.z_tuple bt_tuple ha)) ca_nil) (fun hm ho ha => pe_bm PySem.F.plainAttrs_list PySem.F.slot_list_append PySem.F.type_list_append hm ho ha)))))) css_nil)))
    (css_one (cs_ret (ce_tup (ca_cons (ce_sub G (ce_var 0) ce_int) (ca_cons (ce_callT cs_tuple rfl Fx.z_tuple bt_tuple (ca_cons (ce_var 10) ca_nil) (fun hc ha => pe_callTy hc rfl Fx.z_tuple bt_tuple ha)) (ca_cons (ce_callT cs_tuple rfl Fx.z_tuple bt_tuple (ca_cons (ce_lc (own := [("state", 5)]) G sc__law_least.nd (blkOk_by (own := [("state", 5)]) (N := N__law_least) (sc := defScope s__law_least) (by decide +kernel)) (ci_seq (ce_var 8)) (fun s0 H0 C0 cl fp => (cg_one (i := 5) sc__law_least.nd rfl (Or.inl rfl))) (fun s0 H0 C0 cl fp => cts_nil) (fun s0 H0 C0 cl fp => have G := Good.blk (s := s0) (H := H0) (fp := fp) G; (ce_sub G (ce_sub G (ce_var 0) ce_int) (ce_var 5))) rfl) ca_nil) (fun hc ha => pe_callTy hc rfl Fx.z_tuple bt_tuple ha)) ca_nil)))))))))))))))
end
end Lw
namespace Lw
open PySem PySem.Spec PyProof.Rows L2 RZ Dg
section
variable {P : Program} {w : World} {K : PySem.W.Frag} {mg : Str → Option Value} {base : Heap} {ad : Nat → Addr} {fd : Nat → FuncData} {k : Nat} {C : Calls}
theorem ok__law_doubled (Fx : Facts K mg w ad fd) (T : Tab P w K mg base ad fd (k + 40) C) : FnD P w K mg base (L2.CX P w) (k + 42) (ad 21) (fd 21) ["machine", "numbers"] (spF K mg 2 (runDef 7 (b__law_doubled C))) :=
  defD_ok (N := N__law_doubled) (ps := ["machine", "numbers"]) Fx.F21 sc__law_doubled (fun cdv A outer s H E G =>
    (css_cons (cs_set (i := 2) sc__law_doubled.nd rfl (Or.inl rfl) (ce_callB cs_len rfl Fx.z_len bt_len (ca_cons (ce_sub G (ce_var 0) ce_int) ca_nil) (fun hc ha => pe_callB hc rfl Fx.z_len bt_len ha)))
    (css_cons (cs_set (i := 3) sc__law_doubled.nd rfl (Or.inl rfl) (ce_lst ca_nil))
    (css_cons (cs_for G (ci_rg1 rfl Fx.z_range (ce_op os_mul ce_int (ce_var 2))) (cg_one (i := 4) sc__law_doubled.nd rfl (Or.inl rfl)) (css_cons (cs_set (i := 5) sc__law_doubled.nd rfl (Or.inl rfl) (ce_lst ca_nil))
    (css_cons (cs_for G (ci_seq (ce_sub G (ce_sub G (ce_var 0) ce_int) (ce_op os_mod (ce_callT cs_int rfl Fx.z_int bt_int (ca_cons (ce_var 4) ca_nil) (fun hc ha => pe_callTy hc rfl Fx.z_int bt_int ha)) (ce_callB (cs_max G.calm) rfl Fx.z_max bt_max (ca_cons ce_int (ca_cons (ce_var 2) ca_nil)) (fun hc ha => pe_callB hc rfl Fx.z_max bt_max ha))))) (cg_one (i := 6) sc__law_doubled.nd rfl (Or.inl rfl)) (css_cons (cs_if (CW.ct (cw_and (ct_cmp (os_geX G) (ce_var 6) ce_int (nomark _)) (cw_and1 (ct_cmp (os_eq G) (ce_op os_mod (ce_op os_fdiv (ce_sub G (ce_var 1) (ce_op os_add (ce_callB cs_len rfl Fx.z_len bt_len (ca_cons (ce_var 5) ca_nil) (fun hc ha => pe_callB hc rfl Fx.z_len bt_len ha)) (ce_var 4))) ce_int) ce_int) ce_int (nomark _))))) (css_one (cs_set (i := 6) sc__law_doubled.nd rfl (Or.inl rfl) (ce_op os_add (ce_var 6) (ce_var 2)))) css_nil)
    (css_one (cs_expr (ce_mtL gs_append (ce_var 5) (ca_cons (ce_var 6) ca_nil) (fun hm ho ha => pe_bm PySem.F.plainAttrs_list PySem.F.slot_list_append PySem.F.type_list_append hm ho ha))))))
    (css_one (cs_expr (ce_mtL gs_append (ce_var 3) (ca_cons (ce_callT cs_tuple rfl Fx.z_tuple bt_tuple (ca_cons (ce_var 5) ca_nil) (fun hc ha => pe_callTy hc rfl Fx.z_tuple bt_tuple ha)) ca_nil) (fun hm ho ha => pe_bm PySem.F.plainAttrs_list PySem.F.slot_list_append PySem.F.type_list_append hm ho ha)))))))
    (css_one (cs_ret (ce_tup (ca_cons (ce_sub G (ce_var 0) ce_int) (ca_cons (ce_callT cs_tuple rfl Fx.z_tuple bt_tuple (ca_cons (ce_var 3) ca_nil) (fun hc ha => pe_callTy hc rfl Fx.z_tuple bt_tuple ha)) (ca_cons (ce_op os_add (ce_sub G (ce_var 0) ce_int) (ce_sub G (ce_var 0) ce_int)) ca_nil))))))))))
end
end Lw
namespace Lw
open PySem PySem.Spec PyProof.Rows L2 RZ Dg
section
variable {P : Program} {w : World} {K : PySem.W.Frag} {mg : Str → Option Value} {base : Heap} {ad : Nat → Addr} {fd : Nat → FuncData} {k : Nat} {C : Calls}
theorem ok__law_line (Fx : Facts K mg w ad fd) (T : Tab P w K mg base ad fd (k + 40) C) : FnD P w K mg base (L2.CX P w) (k + 42) (ad 22) (fd 22) ["states"] (spF K mg 1 (runDef 3 (b__law_line C))) :=
  defD_ok (N := N__law_line) (ps := ["states"]) Fx.F22 sc__law_line (fun cdv A outer s H E G =>
    (css_cons (cs_set (i := 1) sc__law_line.nd rfl (Or.inl rfl) (ce_op os_add (ce_callT cs_tuple rfl Fx.z_tuple bt_tuple (ca_cons (ce_lc (own := [("state", 2)]) G sc__law_line.nd (blkOk_by (own := [("state", 2)]) (N := N__law_line) (sc := defScope s__law_line) (by decide +kernel)) (ci_rg1 rfl Fx.z_range (ce_op os_sub (ce_var 0) ce_int)) (fun s0 H0 C0 cl fp => (cg_one (i := 2) sc__law_line.nd rfl (Or.inl rfl))) (fun s0 H0 C0 cl fp => cts_nil) (fun s0 H0 C0 cl fp => (ce_tup (ca_cons (ce_op os_add (ce_var 2) ce_int) ca_nil))) rfl) ca_nil) (fun hc ha => pe_callTy hc rfl Fx.z_tuple bt_tuple ha)) (ce_tup (ca_cons (ce_tup (ca_cons (ce_neg ce_int) ca_nil)) ca_nil))))
    (css_one (cs_ret (ce_tup (ca_cons ce_int (ca_cons (ce_var 1) (ca_cons (ce_callT cs_tuple rfl Fx.z_tuple bt_tuple (ca_cons (ce_lc (own := [("state", 2)]) G sc__law_line.nd (blkOk_by (own := [("state", 2)]) (N := N__law_line) (sc := defScope s__law_line) (by decide +kernel)) (ci_rg1 rfl Fx.z_range (ce_var 0)) (fun s0 H0 C0 cl fp => (cg_one (i := 2) sc__law_line.nd rfl (Or.inl rfl))) (fun s0 H0 C0 cl fp => cts_nil) (fun s0 H0 C0 cl fp => have G := Good.blk (s := s0) (H := H0) (fp := fp) G; (ce_cmp (os_eq G) (ce_var 2) (ce_op os_sub (ce_var 0) ce_int) (nomark _))) rfl) ca_nil) (fun hc ha => pe_callTy hc rfl Fx.z_tuple bt_tuple ha)) ca_nil))))))))
end
end Lw
namespace Lw
open PySem PySem.Spec PyProof.Rows L2 RZ Dg
section
variable {P : Program} {w : World} {K : PySem.W.Frag} {mg : Str → Option Value} {base : Heap} {ad : Nat → Addr} {fd : Nat → FuncData} {k : Nat} {C : Calls}
theorem ok_law (Fx : Facts K mg w ad fd) (T : Tab P w K mg base ad fd (k + 40) C) : FnD P w K mg base (L2.CX P w) (k + 42) (ad 23) (fd 23) ["script"] (spF K mg 1 (runDef 6 (b_law C))) :=
  defD_ok (N := N_law) (ps := ["script"]) Fx.F23 sc_law (fun cdv A outer s H E G =>
    (css_cons (cs_set (i := 1) sc_law.nd rfl (Or.inr rfl) (ce_def G (Nat.le_refl _) T.G12 (ca_cons (ce_var 0) (ca_cons ce_int ca_nil)) (fun hx ha => pd_callS T.G12 G.room rfl Fx.m12 Fx.F12.kp Fx.b12 hx ha)))
    (css_cons (cs_set (i := 2) sc_law.nd rfl (Or.inl rfl) (ce_def G (Nat.le_refl _) T.G13 (ca_cons (ce_var 1) (ca_cons ce_int (ca_cons (ce_sub G (ce_lst (ca_cons (ce_op os_mod (ce_sub G (ce_var 1) ce_int) ce_int) (ca_cons ce_int ca_nil))) (ce_callT cs_int rfl Fx.z_int bt_int (ca_cons (ce_cmp (os_eq G) (ce_op os_mod (ce_sub G (ce_var 1) ce_int) ce_int) ce_int (nomark _)) ca_nil) (fun hc ha => pe_callTy hc rfl Fx.z_int bt_int ha))) (ca_cons (ce_op os_mod (ce_sub G (ce_var 1) ce_int) ce_int) (ca_cons (ce_op os_mod (ce_sub G (ce_var 1) ce_int) ce_int) ca_nil))))) (fun hx ha => pd_callS T.G13 G.room rfl Fx.m13 Fx.F13.kp Fx.b13 hx ha)))
    (css_cons (cs_if (CW.ct (cw_and (ct_cmp (os_eq G) (ce_op os_mod (ce_sub G (ce_var 1) ce_int) ce_int) ce_int (nomark _)) (cw_and1 (ct_cmp (os_ne G) (ce_def G (Nat.le_refl _) T.G11 (ca_cons (ce_def G (Nat.le_refl _) T.G22 (ca_cons ce_int ca_nil) (fun hx ha => pd_callS T.G22 G.room rfl Fx.m22 Fx.F22.kp Fx.b22 hx ha)) ca_nil) (fun hx ha => pd_callS T.G11 G.room rfl Fx.m11 Fx.F11.kp Fx.b11 hx ha)) (ce_def G (Nat.le_refl _) T.G22 (ca_cons ce_int ca_nil) (fun hx ha => pd_callS T.G22 G.room rfl Fx.m22 Fx.F22.kp Fx.b22 hx ha)) (nomark _))))) (css_one (cs_ret ce_bl)) css_nil)
    (css_cons (cs_if (ct_cmp (os_eq G) (ce_op os_mod (ce_sub G (ce_var 1) ce_int) ce_int) ce_int (nomark _)) (css_one (cs_set (i := 2) sc_law.nd rfl (Or.inl rfl) (ce_def G (Nat.le_refl _) T.G21 (ca_cons (ce_var 2) (ca_cons (ce_slice (ce_var 1) (co_some ce_int) co_none) ca_nil)) (fun hx ha => pd_callS T.G21 G.room rfl Fx.m21 Fx.F21.kp Fx.b21 hx ha)))) css_nil)
    (css_cons (cs_if (ct_cmp (os_eq G) (ce_op os_mod (ce_sub G (ce_var 1) ce_int) ce_int) ce_int (nomark _)) (css_one (cs_set (i := 2) sc_law.nd rfl (Or.inl rfl) (ce_tup (ca_cons (ce_sub G (ce_var 2) ce_int) (ca_cons (ce_sub G (ce_var 2) ce_int) (ca_cons (ce_callT cs_tuple rfl Fx.z_tuple bt_tuple (ca_cons (ce_lc (own := [("state", 5)]) G sc_law.nd (blkOk_by (own := [("state", 5)]) (N := N_law) (sc := defScope s_law) (by decide +kernel)) (ci_rg1 rfl Fx.z_range (ce_callB cs_len rfl Fx.z_len bt_len (ca_cons (ce_sub G (ce_var 2) ce_int) ca_nil) (fun hc ha => pe_callB hc rfl Fx.z_len bt_len ha))) (fun s0 H0 C0 cl fp => (cg_one (i := 5) sc_law.nd rfl (Or.inl rfl))) (fun s0 H0 C0 cl fp => cts_nil) (fun s0 H0 C0 cl fp => have G := Good.blk (s := s0) (H := H0) (fp := fp) G; (ce_cmp (os_eq G) (ce_var 5) (ce_op os_mod (ce_sub G (ce_var 1) ce_int) ce_int) (nomark _))) rfl) ca_nil) (fun hc ha => pe_callTy hc rfl Fx.z_tuple bt_tuple ha)) ca_nil)))))) css_nil)
    (css_cons (cs_set (i := 3) sc_law.nd rfl (Or.inl rfl) (ce_def G (Nat.le_refl _) T.G11 (ca_cons (ce_var 2) ca_nil) (fun hx ha => pd_callS T.G11 G.room rfl Fx.m11 Fx.F11.kp Fx.b11 hx ha)))
    (css_cons (cs_if (CW.ct (cw_or (ct_not (ct_val (ce_isi kt_tuple (ce_var 3) (pe_bltn rfl Fx.z_tuple bt_tuple rfl) (fun hc ha => pe_callB hc rfl Fx.z_isinstance bt_isinstance ha)))) (cw_or (ct_cmp (os_ne G) (ce_callB cs_len rfl Fx.z_len bt_len (ca_cons (ce_var 3) ca_nil) (fun hc ha => pe_callB hc rfl Fx.z_len bt_len ha)) ce_int (nomark _)) (cw_or1 (ct_cmp os_notN (ce_def G (Nat.le_refl _) T.G10 (ca_cons (ce_var 3) ca_nil) (fun hx ha => pd_callS T.G10 G.room rfl Fx.m10 Fx.F10.kp Fx.b10 hx ha)) ce_non (nomark _)))))) (css_one (cs_ret ce_bl)) css_nil)
    (css_cons (cs_for G (ci_seq (ce_sub G (ce_var 3) ce_int)) (cg_one (i := 4) sc_law.nd rfl (Or.inl rfl)) (css_one (cs_if (ct_not (ct_val (ce_isi kt_bool (ce_var 4) (pe_bltn rfl Fx.z_bool bt_bool rfl) (fun hc ha => pe_callB hc rfl Fx.z_isinstance bt_isinstance ha)))) (css_one (cs_ret ce_bl)) css_nil)))
    (css_cons (cs_if (CW.ct (cw_or (ct_cmp (os_ne G) (ce_var 3) (ce_def G (Nat.le_refl _) T.G20 (ca_cons (ce_var 2) ca_nil) (fun hx ha => pd_callS T.G20 G.room rfl Fx.m20 Fx.F20.kp Fx.b20 hx ha)) (nomark _)) (cw_or1 (ct_not (ct_val (ce_def G (Nat.le_refl _) T.G18 (ca_cons (ce_var 2) (ca_cons (ce_var 3) ca_nil)) (fun hx ha => pd_callS T.G18 G.room rfl Fx.m18 Fx.F18.kp Fx.b18 hx ha))))))) (css_one (cs_ret ce_bl)) css_nil)
    (css_one (cs_ret (ce_cmp (os_eq G) (ce_def G (Nat.le_refl _) T.G11 (ca_cons (ce_var 3) ca_nil) (fun hx ha => pd_callS T.G11 G.room rfl Fx.m11 Fx.F11.kp Fx.b11 hx ha)) (ce_var 3) (nomark _))))))))))))))
end
end Lw
namespace Lw
open PySem PySem.Spec PyProof.Rows L2 RZ Dg
section
variable {P : Program} {w : World} {K : PySem.W.Frag} {mg : Str → Option Value} {base : Heap} {ad : Nat → Addr} {fd : Nat → FuncData} {k : Nat} {C : Calls}
theorem tab_0 (ad : Nat → Addr) (fd : Nat → FuncData) : Tab P w K mg base ad fd 40 (call 0) := ⟨fn_bad, fn_bad, fn_bad, fn_bad, fn_bad, fn_bad, fn_bad, fn_bad, fn_bad, fn_bad, fn_bad, fn_bad, fn_bad, fn_bad, fn_bad, fn_bad, fn_bad, fn_bad, fn_bad, fn_bad, fn_bad, fn_bad, fn_bad, fn_bad⟩
theorem tab_s (Fx : Facts K mg w ad fd) (T : Tab P w K mg base ad fd (k + 40) (call k)) : Tab P w K mg base ad fd (k + 41) (call (k + 1)) :=
  ⟨ok_met_from Fx T, ok_live_states Fx T, ok_trimmed Fx T, ok_Blocks_init Fx T, ok_Blocks_move_out Fx T, ok_Blocks_split_by Fx T, ok_sources_by_letter Fx T, ok_blocks_of Fx T, ok_least Fx T, ok_are_moves Fx T, ok_check_machine Fx T, ok_least_machine Fx T, ok__law_numbers Fx T, ok__law_machine Fx T, ok__law_next Fx T, ok__law_ends Fx T, ok__law_first Fx T, ok__law_pairs Fx T, ok__law_alike Fx T, ok__law_useful Fx T, ok__law_least Fx T, ok__law_doubled Fx T, ok__law_line Fx T, ok_law Fx T⟩
theorem tab (Fx : Facts K mg w ad fd) : ∀ k : Nat, Tab P w K mg base ad fd (k + 40) (call k)
  | 0 => tab_0 ad fd
  | k + 1 => by
    have h := tab_s Fx (tab Fx k)
    rw [show k + 1 + 40 = k + 41 by omega]
    exact h
end
end Lw
namespace Lw
open PySem PySem.Spec PyProof.Rows L2 RZ Dg
def adOf (K : PySem.W.Frag) : Nat → Addr
  | 0 => He.ga K "met_from"
  | 1 => He.ga K "live_states"
  | 2 => He.ga K "trimmed"
  | 3 => He.ma K (He.ga K "Blocks") "__init__"
  | 4 => He.ma K (He.ga K "Blocks") "move_out"
  | 5 => He.ma K (He.ga K "Blocks") "split_by"
  | 6 => He.ga K "sources_by_letter"
  | 7 => He.ga K "blocks_of"
  | 8 => He.ga K "least"
  | 9 => He.ga K "are_moves"
  | 10 => He.ga K "check_machine"
  | 11 => He.ga K "least_machine"
  | 12 => He.ga K "_law_numbers"
  | 13 => He.ga K "_law_machine"
  | 14 => He.ga K "_law_next"
  | 15 => He.ga K "_law_ends"
  | 16 => He.ga K "_law_first"
  | 17 => He.ga K "_law_pairs"
  | 18 => He.ga K "_law_alike"
  | 19 => He.ga K "_law_useful"
  | 20 => He.ga K "_law_least"
  | 21 => He.ga K "_law_doubled"
  | 22 => He.ga K "_law_line"
  | 23 => He.ga K "law"
  | _ => 0
theorem facts {w : World} {K : PySem.W.Frag} {h : Heap} {mg : Str → Option Value} (X : K.In h) (G : h.Ns mainGlobals mg) (c : SaysU hfa hfn hts hfu w K) : ∃ fd : Nat → FuncData, Facts K mg w (adOf K) fd := by
  obtain ⟨f0, F0⟩ := c.t.d.def_ 0 (d := d_met_from) rfl
  obtain ⟨f1, F1⟩ := c.t.d.def_ 1 (d := d_live_states) rfl
  obtain ⟨f2, F2⟩ := c.t.d.def_ 2 (d := d_trimmed) rfl
  obtain ⟨f3, F3⟩ := c.t.d.def_ 3 (d := d_Blocks_init) rfl
  obtain ⟨f4, F4⟩ := c.t.d.def_ 4 (d := d_Blocks_move_out) rfl
  obtain ⟨f5, F5⟩ := c.t.d.def_ 5 (d := d_Blocks_split_by) rfl
  obtain ⟨f6, F6⟩ := c.t.d.def_ 6 (d := d_sources_by_letter) rfl
  obtain ⟨f7, F7⟩ := c.t.d.def_ 7 (d := d_blocks_of) rfl
  obtain ⟨f8, F8⟩ := c.t.d.def_ 8 (d := d_least) rfl
  obtain ⟨f9, F9⟩ := c.t.d.def_ 9 (d := d_are_moves) rfl
  obtain ⟨f10, F10⟩ := c.t.d.def_ 10 (d := d_check_machine) rfl
  obtain ⟨f11, F11⟩ := c.t.d.def_ 11 (d := d_least_machine) rfl
  obtain ⟨f12, F12⟩ := c.t.d.def_ 12 (d := d__law_numbers) rfl
  obtain ⟨f13, F13⟩ := c.t.d.def_ 13 (d := d__law_machine) rfl
  obtain ⟨f14, F14⟩ := c.t.d.def_ 14 (d := d__law_next) rfl
  obtain ⟨f15, F15⟩ := c.t.d.def_ 15 (d := d__law_ends) rfl
  obtain ⟨f16, F16⟩ := c.t.d.def_ 16 (d := d__law_first) rfl
  obtain ⟨f17, F17⟩ := c.t.d.def_ 17 (d := d__law_pairs) rfl
  obtain ⟨f18, F18⟩ := c.t.d.def_ 18 (d := d__law_alike) rfl
  obtain ⟨f19, F19⟩ := c.t.d.def_ 19 (d := d__law_useful) rfl
  obtain ⟨f20, F20⟩ := c.t.d.def_ 20 (d := d__law_least) rfl
  obtain ⟨f21, F21⟩ := c.t.d.def_ 21 (d := d__law_doubled) rfl
  obtain ⟨f22, F22⟩ := c.t.d.def_ 22 (d := d__law_line) rfl
  obtain ⟨f23, F23⟩ := c.t.d.def_ 23 (d := d_law) rfl
  refine ⟨fun i => match i with
    | 0 => f0
    | 1 => f1
    | 2 => f2
    | 3 => f3
    | 4 => f4
    | 5 => f5
    | 6 => f6
    | 7 => f7
    | 8 => f8
    | 9 => f9
    | 10 => f10
    | 11 => f11
    | 12 => f12
    | 13 => f13
    | 14 => f14
    | 15 => f15
    | 16 => f16
    | 17 => f17
    | 18 => f18
    | 19 => f19
    | 20 => f20
    | 21 => f21
    | 22 => f22
    | 23 => f23
    | _ => f0, ?_⟩
  exact {
    F0 := F0
    b0 := FunD.bindsN F0 fun _ _ _ _ _ _ us hl => match us, hl with | [_, _], _ => rfl
    m0 := He.glo_ok X G (c.t.d.fact 0 (f := .glo "met_from") rfl)
    F1 := F1
    b1 := FunD.bindsN F1 fun _ _ _ _ _ _ us hl => match us, hl with | [_, _], _ => rfl
    m1 := He.glo_ok X G (c.t.d.fact 1 (f := .glo "live_states") rfl)
    F2 := F2
    b2 := FunD.bindsN F2 fun _ _ _ _ _ _ us hl => match us, hl with | [_, _], _ => rfl
    m2 := He.glo_ok X G (c.t.d.fact 2 (f := .glo "trimmed") rfl)
    F3 := F3
    b3 := FunD.bindsN F3 fun _ _ _ _ _ _ us hl => match us, hl with | [_, _], _ => rfl
    mk_Blocks := He.mkr_ok (c.t.d.fact 23 (f := .mkr "Blocks") rfl)
    F4 := F4
    b4 := FunD.bindsN F4 fun _ _ _ _ _ _ us hl => match us, hl with | [_, _, _], _ => rfl
    me4 := He.meth_ok (c.t.d.fact 27 (f := .meth "Blocks" "move_out") rfl)
    F5 := F5
    b5 := FunD.bindsN F5 fun _ _ _ _ _ _ us hl => match us, hl with | [_, _], _ => rfl
    me5 := He.meth_ok (c.t.d.fact 28 (f := .meth "Blocks" "split_by") rfl)
    F6 := F6
    b6 := FunD.bindsN F6 fun _ _ _ _ _ _ us hl => match us, hl with | [_, _], _ => rfl
    m6 := He.glo_ok X G (c.t.d.fact 3 (f := .glo "sources_by_letter") rfl)
    F7 := F7
    b7 := FunD.bindsN F7 fun _ _ _ _ _ _ us hl => match us, hl with | [_, _, _], _ => rfl
    m7 := He.glo_ok X G (c.t.d.fact 4 (f := .glo "blocks_of") rfl)
    F8 := F8
    b8 := FunD.bindsN F8 fun _ _ _ _ _ _ us hl => match us, hl with | [_, _, _], _ => rfl
    m8 := He.glo_ok X G (c.t.d.fact 5 (f := .glo "least") rfl)
    F9 := F9
    b9 := FunD.bindsN F9 fun _ _ _ _ _ _ us hl => match us, hl with | [_, _, _], _ => rfl
    m9 := He.glo_ok X G (c.t.d.fact 6 (f := .glo "are_moves") rfl)
    F10 := F10
    b10 := FunD.bindsN F10 fun _ _ _ _ _ _ us hl => match us, hl with | [_], _ => rfl
    m10 := He.glo_ok X G (c.t.d.fact 7 (f := .glo "check_machine") rfl)
    F11 := F11
    b11 := FunD.bindsN F11 fun _ _ _ _ _ _ us hl => match us, hl with | [_], _ => rfl
    m11 := He.glo_ok X G (c.t.d.fact 8 (f := .glo "least_machine") rfl)
    F12 := F12
    b12 := FunD.bindsN F12 fun _ _ _ _ _ _ us hl => match us, hl with | [_, _], _ => rfl
    m12 := He.glo_ok X G (c.t.d.fact 9 (f := .glo "_law_numbers") rfl)
    F13 := F13
    b13 := FunD.bindsN F13 fun _ _ _ _ _ _ us hl => match us, hl with | [_, _, _, _, _], _ => rfl
    m13 := He.glo_ok X G (c.t.d.fact 10 (f := .glo "_law_machine") rfl)
    F14 := F14
    b14 := FunD.bindsN F14 fun _ _ _ _ _ _ us hl => match us, hl with | [_, _, _], _ => rfl
    m14 := He.glo_ok X G (c.t.d.fact 11 (f := .glo "_law_next") rfl)
    F15 := F15
    b15 := FunD.bindsN F15 fun _ _ _ _ _ _ us hl => match us, hl with | [_, _], _ => rfl
    m15 := He.glo_ok X G (c.t.d.fact 12 (f := .glo "_law_ends") rfl)
    F16 := F16
    b16 := FunD.bindsN F16 fun _ _ _ _ _ _ us hl => match us, hl with | [_], _ => rfl
    m16 := He.glo_ok X G (c.t.d.fact 13 (f := .glo "_law_first") rfl)
    F17 := F17
    b17 := FunD.bindsN F17 fun _ _ _ _ _ _ us hl => match us, hl with | [_, _], _ => rfl
    m17 := He.glo_ok X G (c.t.d.fact 14 (f := .glo "_law_pairs") rfl)
    F18 := F18
    b18 := FunD.bindsN F18 fun _ _ _ _ _ _ us hl => match us, hl with | [_, _], _ => rfl
    m18 := He.glo_ok X G (c.t.d.fact 15 (f := .glo "_law_alike") rfl)
    F19 := F19
    b19 := FunD.bindsN F19 fun _ _ _ _ _ _ us hl => match us, hl with | [_], _ => rfl
    m19 := He.glo_ok X G (c.t.d.fact 16 (f := .glo "_law_useful") rfl)
    F20 := F20
    b20 := FunD.bindsN F20 fun _ _ _ _ _ _ us hl => match us, hl with | [_], _ => rfl
    m20 := He.glo_ok X G (c.t.d.fact 17 (f := .glo "_law_least") rfl)
    F21 := F21
    b21 := FunD.bindsN F21 fun _ _ _ _ _ _ us hl => match us, hl with | [_, _], _ => rfl
    m21 := He.glo_ok X G (c.t.d.fact 18 (f := .glo "_law_doubled") rfl)
    F22 := F22
    b22 := FunD.bindsN F22 fun _ _ _ _ _ _ us hl => match us, hl with | [_], _ => rfl
    m22 := He.glo_ok X G (c.t.d.fact 19 (f := .glo "_law_line") rfl)
    F23 := F23
    b23 := FunD.bindsN F23 fun _ _ _ _ _ _ us hl => match us, hl with | [_], _ => rfl
    m23 := He.glo_ok X G (c.t.d.fact 20 (f := .glo "law") rfl)
    gl_Blocks := He.glo_ok X G (c.t.d.fact 21 (f := .glo "Blocks") rfl)
    cl_Blocks := He.cls_ok (c.t.d.fact 22 (f := .cls "Blocks") rfl)
    na_Blocks_block_of := He.noat_ok (c.t.d.fact 24 (f := .noat "Blocks" "block_of") rfl)
    na_Blocks_members := He.noat_ok (c.t.d.fact 25 (f := .noat "Blocks" "members") rfl)
    na_Blocks_pending := He.noat_ok (c.t.d.fact 26 (f := .noat "Blocks" "pending") rfl)
    z_abs := He.free_ok X G (c.t.d.fact 29 (f := .free "abs") rfl)
    z_all := He.free_ok X G (c.t.d.fact 30 (f := .free "all") rfl)
    z_bool := He.free_ok X G (c.t.d.fact 31 (f := .free "bool") rfl)
    z_enumerate := He.free_ok X G (c.t.d.fact 32 (f := .free "enumerate") rfl)
    z_int := He.free_ok X G (c.t.d.fact 33 (f := .free "int") rfl)
    z_isinstance := He.free_ok X G (c.t.d.fact 34 (f := .free "isinstance") rfl)
    z_len := He.free_ok X G (c.t.d.fact 35 (f := .free "len") rfl)
    z_list := He.free_ok X G (c.t.d.fact 36 (f := .free "list") rfl)
    z_max := He.free_ok X G (c.t.d.fact 37 (f := .free "max") rfl)
    z_min := He.free_ok X G (c.t.d.fact 38 (f := .free "min") rfl)
    z_range := He.free_ok X G (c.t.d.fact 39 (f := .free "range") rfl)
    z_tuple := He.free_ok X G (c.t.d.fact 40 (f := .free "tuple") rfl)
    c_MAX_MACHINE := con_ok X G (c.f 0 (f := .con "MAX_MACHINE" (.int 400)) rfl)
    c_MAX_SIGNS := con_ok X G (c.f 1 (f := .con "MAX_SIGNS" (.int 200)) rfl)
    x_NotAllowed := exn_ok X G (c.t.d.fact 41 (f := .glo "NotAllowed") rfl) (c.t.d.fact 42 (f := .exc "NotAllowed") rfl)
  }
end Lw
namespace Lw
open PySem PySem.Spec PyProof.Rows L2 RZ Dg
section
variable {s : Slots} {μ : Mem} {Q : U → Mem → Prop} {E : Str → Mem → Prop}
theorem w_powI {i j : Int} : wpE (uPow (.int i) (.int j) μ) Q E = ((0 ≤ j ∧ j ≤ 1000000 ∧ i.natAbs < 2 ^ 64) ∧ Q (.int (i ^ j.toNat)) μ) := by
  show wpE (if 0 ≤ j ∧ j ≤ 1000000 ∧ i.natAbs < 2 ^ 64 then _ else _) Q E = _
  split
  · rename_i h; simp only [h, wpE, true_and]
  · rename_i h; simp only [h, wpE, false_and]
theorem w_isi {T : String} {a : FE} : wpE (fIsi T a s μ) Q E = wpE (a s μ) (fun u μ1 => ∃ t, tyU μ1 u = some t ∧ Q (.bl (isTy T t)) μ1) E := by
  unfold fIsi; rw [w_bind]; congr 1; funext u μ1
  cases tyU μ1 u <;> simp [wpE]
theorem w_neg {a : FE} : wpE (fNeg a s μ) Q E = wpE (a s μ) (fun u μ1 => ∃ i, u = .int i ∧ Q (.int (-i)) μ1) E := by
  unfold fNeg; rw [w_bind]; congr 1; funext u μ1
  cases u <;> simp [wpE]
theorem w_andE {a b : FE} : wpE (fAnd a b s μ) Q E = wpE (a s μ) (fun u μ1 => ∃ c, u = .bl c ∧ if c = true then wpE (b s μ1) Q E else Q (.bl false) μ1) E := by
  unfold fAnd; rw [w_bind]; congr 1; funext u μ1
  cases u with
  | bl c => cases c <;> simp [wpE]
  | _ => simp [wpE]
theorem w_orE {a b : FE} : wpE (fOr a b s μ) Q E = wpE (a s μ) (fun u μ1 => ∃ c, u = .bl c ∧ if c = true then Q (.bl true) μ1 else wpE (b s μ1) Q E) E := by
  unfold fOr; rw [w_bind]; congr 1; funext u μ1
  cases u with
  | bl c => cases c <;> simp [wpE]
  | _ => simp [wpE]
theorem w_notE {a : FE} : wpE (fNot a s μ) Q E = wpE (a s μ) (fun u μ1 => ∃ c, u = .bl c ∧ Q (.bl (!c)) μ1) E := by
  unfold fNot; rw [w_bind]; congr 1; funext u μ1
  cases u <;> simp [wpE]
theorem w_chain {f g : U → U → Mem → Res U} {a b c : FE} : wpE (fChain f g a b c s μ) Q E = wpE (a s μ) (fun x μ1 => wpE (b s μ1) (fun y μ2 => wpE (f x y μ2) (fun z μ3 => ∃ t, z = .bl t ∧ if t = true then wpE (c s μ3) (fun w μ4 => wpE (g y w μ4) Q E) E else Q (.bl false) μ3) E) E) E := by
  unfold fChain; rw [w_bind]; congr 1; funext x μ1; rw [w_bind]; congr 1; funext y μ2; rw [w_bind]; congr 1; funext z μ3
  cases z with
  | bl t =>
    cases t with
    | false => simp [wpE]
    | true =>
      show wpE ((c s μ3).bind fun w μ4 => g y w μ4) Q E = _
      rw [w_bind]
      simp
  | _ => simp [wpE]
theorem s_raise {x : Str} {a : FE} {D : Dn} : wpS (sRaise x a s μ) D = wpE (a s μ) (fun u μ1 => D.ex x s μ1) (fun c μ => D.ex c s μ) := by
  unfold sRaise; rw [w_ofR]
  rfl
theorem tru_b {b : Bool} : truU μ (.bl b) = some b := rfl
theorem truL {r : Nat} {us : List U} (h : μ[r]? = some (.lst us)) : truU μ (.ref r) = some (!us.isEmpty) := by
  unfold truU; simp only [h]
end
/-- all cells stay -/
structure Fr (μ μ' : Mem) : Prop where
  le : μ.length ≤ μ'.length
  at_ : ∀ (i : Nat) (c : Cell), μ[i]? = some c → μ'[i]? = some c
section
variable {μ μ' μ'' : Mem}
theorem Fr.refl : Fr μ μ := ⟨Nat.le_refl _, fun _ _ h => h⟩
theorem Fr.trans (a : Fr μ μ') (b : Fr μ' μ'') : Fr μ μ'' := ⟨Nat.le_trans a.le b.le, fun i c h => b.at_ i c (a.at_ i c h)⟩
theorem Fr.snoc {c : Cell} (a : Fr μ μ') : Fr μ (μ' ++ [c]) := ⟨by have := a.le; simp; omega, fun i d h => get_snoc_lt (a.at_ i d h)⟩
theorem Fr.put {c : Cell} {i : Nat} (a : Fr μ μ') (h : μ.length ≤ i) : Fr μ (μ'.set i c) := ⟨by simpa using a.le, fun j d hj => get_set_ne (a.at_ j d hj) (by have := get_lt hj; omega)⟩
end
section
variable {s : Slots} {μ : Mem} {Q : U → Mem → Prop} {E : Str → Mem → Prop}
theorem w_sl {a : FE} {lo hi : FO} : wpE (fSl a lo hi s μ) Q E = wpE (a s μ) (fun u μ1 => wpE (lo s μ1) (fun l μ2 => wpE (hi s μ2) (fun h μ3 => wpE (slU u l h μ3) Q E) E) E) E := by
  unfold fSl; rw [w_bind]; congr 1; funext u μ1; rw [w_bind]; congr 1; funext l μ2; rw [w_bind]
theorem w_oNone {Q : Option Int → Mem → Prop} : wpE (oNone s μ) Q E = Q none μ := propext ⟨fun h => h, fun h => h⟩
theorem w_oSome {a : FE} {Q : Option Int → Mem → Prop} : wpE (oSome a s μ) Q E = wpE (a s μ) (fun u μ1 => ∃ i, u = .int i ∧ Q (some i) μ1) E := by
  unfold oSome; rw [w_bind]; congr 1; funext u μ1
  cases u <;> simp [wpE]
theorem sl_L {r : Nat} {us : List U} {lo hi : Option Int} (h : μ[r]? = some (.lst us)) : slU (.ref r) lo hi μ = .ok (.ref μ.length) (μ ++ [.lst (cutU us lo hi)]) := by
  unfold slU; simp only [lstU_L h]
theorem w_slL {r : Nat} {us : List U} {lo hi : Option Int} (h : μ[r]? = some (.lst us)) : wpE (slU (.ref r) lo hi μ) Q E = Q (.ref μ.length) (μ ++ [.lst (cutU us lo hi)]) := by rw [sl_L h]; rfl
theorem w_slT {us : List U} {lo hi : Option Int} : wpE (slU (.tup us) lo hi μ) Q E = Q (.tup (cutU us lo hi)) μ := propext ⟨fun h => h, fun h => h⟩
theorem w_slF {us : List U} {lo hi : Option Int} : wpE (slU (.frl us) lo hi μ) Q E = Q (.ref μ.length) (μ ++ [.lst (cutU us lo hi)]) := propext ⟨fun h => h, fun h => h⟩
theorem w_ixF {us : List U} {i : Int} : wpE (ixU (.frl us) (.int i) μ) Q E = ∃ a, atI us i = some a ∧ Q a μ := w_res
theorem w_lenF {us : List U} : wpE (bLen [.frl us] μ) Q E = Q (.int us.length) μ := propext ⟨fun h => h, fun h => h⟩
theorem w_abs {i : Int} : wpE (bAbs [.int i] μ) Q E = Q (.int i.natAbs) μ := by
  show Q (.int (if i < 0 then -i else i)) μ = _
  congr 2; split <;> omega
theorem w_max2 {i j : Int} : wpE (bMax [.int i, .int j] μ) Q E = Q (.int (max i j)) μ := by
  show Q (.int (if j > i then j else i)) μ = _
  congr 2; split <;> omega
theorem w_min2 {i j : Int} : wpE (bMin [.int i, .int j] μ) Q E = Q (.int (min i j)) μ := by
  show Q (.int (if j < i then j else i)) μ = _
  congr 2; split <;> omega
end
theorem s_tryAs {tab : List (Str × Bool)} {i : Nat} {b : FS} {ms : Str → FE} {s : Slots} {μ : Mem} {D : Dn} : wpS (sTryAs tab i b ms s μ) D = wpS (b s μ) { D with ex := fun c s1 μ1 => ∃ t, tab.lookup c = some t ∧ if t = true then i < s1.length ∧ wpE (ms c (s1.set i none) μ1) (fun u μ2 => D.rt u μ2) (fun c μ => D.ex c (s1.set i none) μ) else D.ex c s1 μ1 } := by
  unfold sTryAs
  cases b s μ with
  | ex c s1 μ1 =>
    show Dg.wpS (match tab.lookup c with
      | some true => _
      | some false => _
      | none => _) D = ∃ t, tab.lookup c = some t ∧ _
    cases tab.lookup c with
    | none => simp [Dg.wpS]
    | some t =>
      cases t with
      | false => simp [Dg.wpS]
      | true =>
        simp only [Option.some.injEq, exists_eq_left', if_true]
        split
        · rename_i h; simp only [h, true_and]; exact w_ofR
        · rename_i h; simp [h, Dg.wpS]
  | _ => rfl
theorem s_try {tab : List (Str × Bool)} {b u : FS} {s : Slots} {μ : Mem} {D : Dn} : wpS (sTry tab b u s μ) D = wpS (b s μ) { D with ex := fun c s1 μ1 => ∃ t, tab.lookup c = some t ∧ if t = true then wpS (u s1 μ1) D else D.ex c s1 μ1 } := by
  unfold sTry
  cases b s μ with
  | ex c s1 μ1 =>
    show Dg.wpS (match tab.lookup c with
      | some true => _
      | some false => _
      | none => _) D = ∃ t, tab.lookup c = some t ∧ _
    cases tab.lookup c with
    | none => simp [Dg.wpS]
    | some t =>
      cases t with
      | false => simp [Dg.wpS]
      | true => simp
  | _ => rfl
theorem w_isX {tab : List (Str × Bool)} {c : Str} {s : Slots} {μ : Mem} {Q : U → Mem → Prop} {E : Str → Mem → Prop} : wpE (fIsX tab c s μ) Q E = ∃ b, tab.lookup c = some b ∧ Q (.bl b) μ := by
  unfold fIsX
  cases tab.lookup c with
  | none => simp [wpE]
  | some b => simp [w_c]
/-! texts with places -/
theorem strOk_of (x : String) : PyData.strOk (Str.ofString x) = true := by
  rw [Str.ofString_eq_toList]
  unfold PyData.strOk
  rw [Array.all_eq_true']
  intro c hc
  simp only [List.mem_toArray, List.mem_map] at hc
  obtain ⟨ch, _, rfl⟩ := hc
  have := ch.valid
  simp only [decide_eq_true_eq]
  rcases this with h | h
  · exact Nat.lt_of_lt_of_le h (by decide)
  · exact h.2
def fmtOk (u : U) (y : Str) : Prop := (u = .str y ∧ y.length ≤ lim) ∨ ∃ i : Int, u = .int i ∧ i.natAbs.log2 < 1920 ∧ y = (toString i : Str)
section
variable {s : Slots} {μ : Mem} {Q : U → Mem → Prop} {E : Str → Mem → Prop}
theorem w_fmt {a : FE} : wpE (fFmt a s μ) Q E = wpE (a s μ) (fun u μ1 => ∃ y, fmtOk u y ∧ Q (.str y) μ1) E := by
  unfold fFmt; rw [w_bind]; congr 1; funext u μ1
  cases u with
  | str y =>
    apply propext
    constructor
    · intro h
      simp only at h
      split at h
      · rename_i hl; exact ⟨y, .inl ⟨rfl, hl⟩, h⟩
      · exact h.elim
    · rintro ⟨z, h | ⟨i, h, _⟩, q⟩
      · cases h.1; simp only [h.2, if_true]; exact q
      · cases h
  | int i =>
    apply propext
    constructor
    · intro h
      simp only at h
      split at h
      · rename_i hl; exact ⟨_, .inr ⟨i, rfl, hl.1, rfl⟩, h⟩
      · exact h.elim
    · rintro ⟨z, h | ⟨j, h, h2, h3⟩, q⟩
      · cases h.1
      · cases h; subst h3; simp only [h2, strOk_of, and_self, if_true]; exact q
  | _ =>
    apply propext
    constructor
    · intro h; exact h.elim
    · rintro ⟨z, h | ⟨j, h, h2, h3⟩, q⟩
      · cases h.1
      · cases h
theorem w_js0 {acc : Str} : wpE (fJs [] acc s μ) Q E = Q (.str acc) μ := propext ⟨fun h => h, fun h => h⟩
theorem w_js {p : FE} {ps : List FE} {acc : Str} : wpE (fJs (p :: ps) acc s μ) Q E = wpE (p s μ) (fun u μ1 => ∃ y, u = .str y ∧ (acc ++ y).length ≤ lim ∧ wpE (fJs ps (acc ++ y) s μ1) Q E) E := by
  show wpE ((p s μ).bind _) Q E = _
  rw [w_bind]; congr 1; funext u μ1
  cases u with
  | str y =>
    simp only [U.str.injEq, exists_eq_left']
    split
    · rename_i h; simp [h]
    · rename_i h; simp [h, wpE]
  | _ => simp [wpE]
theorem len_app (a b : Str) : (a ++ b).length = a.length + b.length := by
  show (a.cps ++ b.cps).size = a.cps.size + b.cps.size
  simp
theorem fmt_int {i : Int} (h : i.natAbs < 2 ^ 64) : fmtOk (.int i) (toString i : Str) := .inr ⟨i, rfl, by
  have := Nat.log2_lt (n := i.natAbs) (k := 64)
  by_cases z : i.natAbs = 0
  · rw [z]; decide
  · have := (this z).mpr h
    omega, rfl⟩
end
/-! what is pure: data without lists; == of it -/
mutual
def sz : U → Nat
  | .tup us => 1 + szs us
  | _ => 1
def szs : List U → Nat
  | [] => 0
  | u :: us => sz u + szs us
end
mutual
def dp : U → Nat
  | .tup us => dps us + 1
  | _ => 0
def dps : List U → Nat
  | [] => 0
  | u :: us => max (dp u) (dps us)
end
mutual
def pu : U → Bool
  | .tup us => pus us
  | .str _ => true
  | .int _ => true
  | .bl _ => true
  | .non => true
  | _ => false
def pus : List U → Bool
  | [] => true
  | u :: us => pu u && pus us
end
mutual
theorem pu_data {u : U} (h : pu u = true) : ∃ d : PyData, (∀ g, toD g u = some d) ∧ PyData.eqv d d = true ∧ d.depth = dp u := by
  cases u with
  | tup us =>
    obtain ⟨ds, h1, h2, h3⟩ := pus_data (us := us) (by simpa [pu] using h)
    exact ⟨.tuple ds, fun g => by simp [toD, h1], by simpa [PyData.eqv] using h2, by simp [PyData.depth, dp, h3]⟩
  | str s => exact ⟨.str s, fun g => rfl, by simp [PyData.eqv], by simp [PyData.depth, dp]⟩
  | int i => exact ⟨.int i, fun g => rfl, by simp [PyData.eqv], by simp [PyData.depth, dp]⟩
  | bl b => exact ⟨.bool b, fun g => rfl, by simp [PyData.eqv], by simp [PyData.depth, dp]⟩
  | non => exact ⟨.none, fun g => rfl, by simp [PyData.eqv], by simp [PyData.depth, dp]⟩
  | _ => simp [pu] at h
theorem pus_data {us : List U} (h : pus us = true) : ∃ ds : List PyData, (∀ g, toDs g us = some ds) ∧ PyData.eqvAll ds ds = true ∧ PyData.depthAll ds = dps us := by
  cases us with
  | nil => exact ⟨[], fun g => rfl, rfl, rfl⟩
  | cons u us =>
    obtain ⟨h1, h2⟩ : pu u = true ∧ pus us = true := by simpa [pus] using h
    obtain ⟨d, a1, a2, a3⟩ := pu_data h1
    obtain ⟨ds, b1, b2, b3⟩ := pus_data h2
    exact ⟨d :: ds, fun g => by simp [toDs, a1, b1], by simp [PyData.eqvAll, a2, b2], by simp [PyData.depthAll, dps, a3, b3]⟩
end
/-- == of the same -/
theorem eq_self {u : U} {μ : Mem} (h : pu u = true) (hd : dp u ≤ 800) : eqU u u μ = some true := by
  obtain ⟨d, a, b, c⟩ := pu_data h
  unfold Dg.eqU datU
  simp only [a]
  rw [if_pos (by rw [c]; simp [eqLim]; omega), b]
/-! the same without truth values: == is = -/
mutual
def pd : U → Bool
  | .tup us => pds us
  | .str _ => true
  | .int _ => true
  | .non => true
  | _ => false
def pds : List U → Bool
  | [] => true
  | u :: us => pd u && pds us
end
mutual
theorem pd_pu {u : U} (h : pd u = true) : pu u = true := by
  cases u with
  | tup us => simp only [pu]; exact pds_pus (by simpa [pd] using h)
  | str s => rfl
  | int i => rfl
  | non => rfl
  | _ => simp [pd] at h
theorem pds_pus {us : List U} (h : pds us = true) : pus us = true := by
  cases us with
  | nil => rfl
  | cons u us =>
    obtain ⟨h1, h2⟩ : pd u = true ∧ pds us = true := by simpa [pds] using h
    simp [pus, pd_pu h1, pds_pus h2]
end
mutual
theorem pd_eq {u w : U} {g : Nat → Option PyData} {d e : PyData} (hu : pd u = true) (hw : pd w = true) (du : toD g u = some d) (dw : toD g w = some e) : PyData.eqv d e = true ↔ u = w := by
  cases u with
  | tup us =>
    simp only [toD, Option.map_eq_some_iff] at du
    obtain ⟨ds, du, rfl⟩ := du
    cases w with
    | tup ws =>
      simp only [toD, Option.map_eq_some_iff] at dw
      obtain ⟨es, dw, rfl⟩ := dw
      have := pds_eq (by simpa [pd] using hu) (by simpa [pd] using hw) du dw
      simp only [PyData.eqv, this, U.tup.injEq]
    | str s => cases dw; simp [PyData.eqv]
    | int i => cases dw; simp [PyData.eqv]
    | non => cases dw; simp [PyData.eqv]
    | _ => simp [pd] at hw
  | str s =>
    cases du
    cases w with
    | tup ws =>
      simp only [toD, Option.map_eq_some_iff] at dw
      obtain ⟨es, dw, rfl⟩ := dw
      simp [PyData.eqv]
    | str s => cases dw; simp [PyData.eqv]
    | int i => cases dw; simp [PyData.eqv]
    | non => cases dw; simp [PyData.eqv]
    | _ => simp [pd] at hw
  | int s =>
    cases du
    cases w with
    | tup ws =>
      simp only [toD, Option.map_eq_some_iff] at dw
      obtain ⟨es, dw, rfl⟩ := dw
      simp [PyData.eqv]
    | str s => cases dw; simp [PyData.eqv]
    | int i => cases dw; simp [PyData.eqv]
    | non => cases dw; simp [PyData.eqv]
    | _ => simp [pd] at hw
  | non =>
    cases du
    cases w with
    | tup ws =>
      simp only [toD, Option.map_eq_some_iff] at dw
      obtain ⟨es, dw, rfl⟩ := dw
      simp [PyData.eqv]
    | str s => cases dw; simp [PyData.eqv]
    | int i => cases dw; simp [PyData.eqv]
    | non => cases dw; simp [PyData.eqv]
    | _ => simp [pd] at hw
  | _ => simp [pd] at hu
theorem pds_eq {us ws : List U} {g : Nat → Option PyData} {ds es : List PyData} (hu : pds us = true) (hw : pds ws = true) (du : toDs g us = some ds) (dw : toDs g ws = some es) : PyData.eqvAll ds es = true ↔ us = ws := by
  cases us with
  | nil =>
    cases du
    cases ws with
    | nil => cases dw; simp [PyData.eqvAll]
    | cons w ws =>
      simp only [toDs] at dw
      split at dw
      · cases dw; simp [PyData.eqvAll]
      · cases dw
  | cons u us =>
    obtain ⟨h1, h2⟩ : pd u = true ∧ pds us = true := by simpa [pds] using hu
    simp only [toDs] at du
    split at du
    · rename_i d ds' d1 d2
      cases du
      cases ws with
      | nil => cases dw; simp [PyData.eqvAll]
      | cons w ws =>
        obtain ⟨k1, k2⟩ : pd w = true ∧ pds ws = true := by simpa [pds] using hw
        simp only [toDs] at dw
        split at dw
        · rename_i e es' e1 e2
          cases dw
          simp only [PyData.eqvAll, Bool.and_eq_true, pd_eq h1 k1 d1 e1, pds_eq h2 k2 d2 e2, List.cons.injEq]
        · cases dw
    · cases du
end
/-- == of data without truth values -/
theorem eq_pd {u w : U} {μ : Mem} (hu : pd u = true) (hw : pd w = true) (hd : min (dp u) (dp w) ≤ 800) : ∃ b, eqU u w μ = some b ∧ (b = true ↔ u = w) := by
  obtain ⟨d, a, _, c⟩ := pu_data (pd_pu hu)
  obtain ⟨e, a2, _, c2⟩ := pu_data (pd_pu hw)
  refine ⟨PyData.eqv d e, ?_, pd_eq hu hw (a (fun _ => none)) (a2 _)⟩
  unfold Dg.eqU datU
  simp only [a, a2]
  rw [if_pos (by rw [c, c2]; simp [eqLim]; omega)]
/-- the run ends and gives True -/
structure Yes (r : Res U) : Prop where
  ap : ∃ μ, r = .ok (.bl true) μ
theorem Yes.of {r : Res U} (h : wpE r (fun u _ => u = .bl true) (fun _ _ => False)) : Yes r := by
  obtain ⟨a, μ', e, rfl⟩ := wpE.get h
  exact ⟨μ', e⟩
/-! loops by what they walk -/
section
variable {s : Slots} {μ : Mem} {D : Dn} {g : Tgt} {b : FS}
theorem for_rng {m : Nat} (n : Nat) (I : Nat → Slots → Mem → Prop) (hm : m = n) (hn : n < 1000000) (h0 : I 0 s μ)
    (step : ∀ i s μ, i < n → I i s μ → ∃ s1, setT g (.int (i : Int)) s = some s1 ∧ Dg.wpS (b s1 μ) ⟨I (i + 1), D.rt, D.nx, I (i + 1), D.ex⟩) (fin : ∀ s μ, I n s μ → D.nx s μ) : Dg.wpS (sForGo g b fuelF (.rng 0 1 m) 0 s μ) D := by
  subst hm
  refine for_go (fun i s μ => i ≤ m ∧ I i s μ) m hn ⟨by omega, h0⟩ (fun i s μ h => h.1) ?_
  rintro i s μ ⟨hi, h⟩
  rw [item_rng]
  by_cases e : i < m
  · right
    obtain ⟨s1, e1, e2⟩ := step i s μ e h
    refine ⟨_, s1, by rw [if_pos e], by rw [show (0 : Int) + (i : Int) * 1 = (i : Int) by omega]; exact e1, wpS.mono e2 (fun _ _ q => ⟨by omega, q⟩) (fun _ _ q => q) (fun _ _ q => q) (fun _ _ q => ⟨by omega, q⟩) fun _ _ _ q => q⟩
  · left
    have : i = m := by omega
    subst this
    exact ⟨by rw [if_neg e], fin s μ h⟩
theorem for_seq {us : List U} (I : Nat → Slots → Mem → Prop) (hn : us.length < 1000000) (h0 : I 0 s μ)
    (step : ∀ i s μ (h : i < us.length), I i s μ → ∃ s1, setT g us[i] s = some s1 ∧ Dg.wpS (b s1 μ) ⟨I (i + 1), D.rt, D.nx, I (i + 1), D.ex⟩) (fin : ∀ s μ, I us.length s μ → D.nx s μ) : Dg.wpS (sForGo g b fuelF (.seq us) 0 s μ) D := by
  refine for_go (fun i s μ => i ≤ us.length ∧ I i s μ) us.length hn ⟨by omega, h0⟩ (fun i s μ h => h.1) ?_
  rintro i s μ ⟨hi, h⟩
  rw [item_seq]
  by_cases e : i < us.length
  · right
    obtain ⟨s1, e1, e2⟩ := step i s μ e h
    exact ⟨us[i], s1, by rw [List.getElem?_eq_getElem e], e1, wpS.mono e2 (fun _ _ q => ⟨by omega, q⟩) (fun _ _ q => q) (fun _ _ q => q) (fun _ _ q => ⟨by omega, q⟩) fun _ _ _ q => q⟩
  · left
    have : i = us.length := by omega
    subst this
    exact ⟨by rw [List.getElem?_eq_none (by omega)], fin s μ h⟩
end
section
variable {own : List Nat} {g : Tgt} {t : FT} {e : FE} {s : Slots} {d : Nat} {μ : Mem} {Q : U → Mem → Prop} {E : Str → Mem → Prop}
theorem lc_seq {us : List U} (I : Nat → Mem → Prop) (hn : us.length < 1000000) (h0 : I 0 μ)
    (step : ∀ i μ (h : i < us.length), I i μ → ∃ s1, setT g us[i] (wipeU s own) = some s1 ∧
      wpE (t s1 μ) (fun b μ3 => if b = true then wpE (e s1 μ3) (fun v μ4 => ∃ acc, μ4[d]? = some (.lst acc) ∧ acc.length < lim ∧ I (i + 1) (μ4.set d (.lst (acc ++ [v])))) (fun _ _ => False) else I (i + 1) μ3) (fun _ _ => False))
    (fin : ∀ μ, I us.length μ → Q (.ref d) μ) : wpE (lcGo (.seq us) own g t e s d fuelF 0 μ) Q E := by
  refine lc_go (fun i μ => i ≤ us.length ∧ I i μ) us.length hn ⟨by omega, h0⟩ (fun i μ h => h.1) ?_
  rintro i μ ⟨hi, h⟩
  rw [item_seq]
  by_cases h1 : i < us.length
  · right
    obtain ⟨s1, e1, e2⟩ := step i μ h1 h
    refine ⟨us[i], s1, by rw [List.getElem?_eq_getElem h1], e1, wpE.mono e2 fun b μ3 q => ?_⟩
    cases b with
    | false => exact ⟨by omega, q⟩
    | true => exact wpE.mono q fun v μ4 ⟨acc, a1, a2, a3⟩ => ⟨acc, a1, a2, by omega, a3⟩
  · left
    have : i = us.length := by omega
    subst this
    exact ⟨by rw [List.getElem?_eq_none (by omega)], fin μ h⟩
end
/-! comprehensions as maps -/
theorem take_snoc {α : Type} {us : List α} {i : Nat} (h : i < us.length) : us.take (i + 1) = us.take i ++ [us[i]] := by
  rw [List.take_succ]; simp [h]
section
variable {own : List Nat} {g : Tgt} {t : FT} {e : FE} {s : Slots} {μ0 : Mem} {Q : U → Mem → Prop} {E : Str → Mem → Prop}
theorem lc_map {us : List U} (f : U → U) (hn : us.length < 1000000)
    (step : ∀ i μ' (h : i < us.length), Fr μ0 μ' → ∃ s1, setT g us[i] (wipeU s own) = some s1 ∧ wpE (e s1 μ') (fun w μ'' => w = f us[i] ∧ Fr μ' μ'') (fun _ _ => False))
    (fin : ∀ μ', Fr μ0 μ' → μ'[μ0.length]? = some (.lst (us.map f)) → Q (.ref μ0.length) μ') : wpE (lcGo (.seq us) own g tAll e s μ0.length fuelF 0 (μ0 ++ [.lst []])) Q E := by
  refine lc_seq (fun i μ' => Fr μ0 μ' ∧ μ'[μ0.length]? = some (.lst ((us.take i).map f))) hn ⟨Fr.refl.snoc, by simp⟩ ?_ ?_
  · rintro i μ1 hi ⟨f1, c1⟩
    obtain ⟨s1, a1, a2⟩ := step i μ1 hi f1
    refine ⟨s1, a1, ?_⟩
    show wpE (e s1 μ1) _ _
    refine wpE.mono a2 ?_
    rintro w μ2 ⟨rfl, f2⟩
    refine ⟨_, f2.at_ _ _ c1, by simp [lim]; omega, (f1.trans f2).put (Nat.le_refl _), ?_⟩
    rw [get_set (f2.at_ _ _ c1), take_snoc hi, List.map_append]
    rfl
  · rintro μ1 ⟨f1, c1⟩
    rw [List.take_length] at c1
    exact fin μ1 f1 c1
end
theorem blsU_map {α : Type} (f : α → Bool) : ∀ us : List α, blsU (us.map fun u => U.bl (f u)) = some (us.map f)
  | [] => rfl
  | u :: us => by simp [blsU, blsU_map f us]
theorem w_allL {μ : Mem} {Q : U → Mem → Prop} {E : Str → Mem → Prop} {r : Nat} {us : List U} {bs : List Bool} (h : μ[r]? = some (.lst us)) (e : blsU us = some bs) : wpE (bAll [.ref r] μ) Q E = Q (.bl (bs.all id)) μ := by
  have : bAll [.ref r] μ = .ok (.bl (bs.all id)) μ := by unfold bAll; simp only [lstU_L h, Option.bind_some, e]
  rw [this]; rfl
theorem intsU_map {α : Type} (f : α → Int) : ∀ us : List α, intsU (us.map fun u => U.int (f u)) = some (us.map f)
  | [] => rfl
  | u :: us => by simp [intsU, intsU_map f us]
theorem w_addT {μ : Mem} {Q : U → Mem → Prop} {E : Str → Mem → Prop} {us ws : List U} (h : us.length + ws.length ≤ lim) : wpE (uAdd (.tup us) (.tup ws) μ) Q E = Q (.tup (us ++ ws)) μ := by
  cases us with
  | nil => rfl
  | cons u us =>
    have : uAdd (.tup (u :: us)) (.tup ws) μ = .ok (.tup (u :: us ++ ws)) μ := by unfold uAdd; simp only [h, if_true]
    rw [this]; rfl
/-! dicts -/
section
variable {s : Slots} {μ : Mem} {Q : U → Mem → Prop} {E : Str → Mem → Prop} {D : Dn}
theorem w_getE {d a b : FE} : wpE (fGet d a b s μ) Q E = wpE (d s μ) (fun x μ1 => (∃ kus0, rdU μ1 x = some kus0) ∧ wpE (a s μ1) (fun y μ2 => wpE (b s μ2) (fun z μ3 => ∃ kus k, rdU μ3 x = some kus ∧ keyU y = some k ∧ Q ((valU kus k).getD z) μ3) E) E) E := by
  unfold fGet; rw [w_bind]; congr 1; funext x μ1
  cases rdU μ1 x with
  | none => simp [wpE]
  | some k0 =>
    simp only [w_bind, Option.some.injEq, exists_eq', true_and]
    congr 1; funext y μ2; congr 1; funext z μ3
    cases h1 : rdU μ3 x with
    | none => simp [wpE]
    | some kus =>
      cases h2 : keyU y with
      | none => simp [wpE]
      | some k => simp [wpE]
theorem rd_D {r : Nat} {kus : List (Key × U)} (h : μ[r]? = some (.dct kus)) : rdU μ (.ref r) = some kus := by unfold rdU; simp only [h]
theorem stU_DI {r : Nat} {kvs : List (Key × U)} {x : Int} {u : U} (h : μ[r]? = some (.dct kvs)) (hl : kvs.length < lim) : stU (.ref r) (.int x) u μ = some (μ.set r (.dct (putU kvs (.inl x) u))) := by
  unfold stU; simp only [h, keyU, hl, if_true]
def lkD (r : Nat) (D : Dn) : Dn := ⟨fun s μ => ∃ kus, μ[r]? = some (.fdc kus) ∧ D.nx s (μ.set r (.dct kus)), fun u μ => ∃ kus, μ[r]? = some (.fdc kus) ∧ D.rt u (μ.set r (.dct kus)),
  fun s μ => ∃ kus, μ[r]? = some (.fdc kus) ∧ D.bk s (μ.set r (.dct kus)), fun s μ => ∃ kus, μ[r]? = some (.fdc kus) ∧ D.ct s (μ.set r (.dct kus)), D.ex⟩
theorem ulM_F {r : Nat} {kus : List (Key × U)} (h : μ[r]? = some (.fdc kus)) : ulM r μ = some (μ.set r (.dct kus)) := by unfold ulM; simp only [h, ulC]
theorem s_lockD {e : FE} {b : FS} {r : Nat} {μ' : Mem} {kus : List (Key × U)} (he : e s μ = .ok (.ref r) μ') (h : μ[r]? = some (.dct kus)) (w : Dg.wpS (b s (μ.set r (.fdc kus))) (lkD r D)) : Dg.wpS (sLock e b s μ) D := by
  unfold sLock
  rw [he]
  simp only [h, lkC]
  cases eb : b s (μ.set r (.fdc kus)) with
  | nx s1 m1 => rw [eb] at w; obtain ⟨k, c, q⟩ := w; simp only [ulO, ulM_F c]; exact q
  | rt s1 m1 => rw [eb] at w; obtain ⟨k, c, q⟩ := w; simp only [ulO, ulM_F c]; exact q
  | bk s1 m1 => rw [eb] at w; obtain ⟨k, c, q⟩ := w; simp only [ulO, ulM_F c]; exact q
  | ct s1 m1 => rw [eb] at w; obtain ⟨k, c, q⟩ := w; simp only [ulO, ulM_F c]; exact q
  | ex c s1 m1 => rw [eb] at w; exact w
  | bad => rw [eb] at w; exact w
theorem w_lockD {e : FE} {b : FE} {r : Nat} {μ' : Mem} {kus : List (Key × U)} (he : e s μ = .ok (.ref r) μ') (h : μ[r]? = some (.dct kus)) (w : wpE (b s (μ.set r (.fdc kus))) (fun u μ => ∃ kus, μ[r]? = some (.fdc kus) ∧ Q u (μ.set r (.dct kus))) E) : wpE (fLock e b s μ) Q E := by
  unfold fLock
  rw [he]
  simp only [h, lkC]
  cases eb : b s (μ.set r (.fdc kus)) with
  | ok s1 m1 => rw [eb] at w; obtain ⟨k, c, q⟩ := w; simp only [ulR, ulM_F c]; exact q
  | ex c m1 => rw [eb] at w; exact w
  | bad => rw [eb] at w; exact w
theorem w_items {a : FE} {Q : IterU → Mem → Prop} : wpE (Dg.iItems a s μ) Q E = wpE (a s μ) (fun u μ1 => ∃ kus, fdcU μ1 u = some kus ∧ ksOk kus = true ∧ Q (.seq (itemsU kus)) μ1) E := by
  unfold Dg.iItems; rw [w_bind]; congr 1; funext u μ1
  cases fdcU μ1 u with
  | none => simp [wpE]
  | some kus =>
    simp only [Option.some.injEq, exists_eq_left']
    split
    · rename_i h; simp [h, wpE]
    · rename_i h; simp [h, wpE]
theorem w_keys {a : FE} {Q : IterU → Mem → Prop} : wpE (Dg.iKeys a s μ) Q E = wpE (a s μ) (fun u μ1 => ∃ kus, fdcU μ1 u = some kus ∧ ksOk kus = true ∧ Q (.seq (keysU kus)) μ1) E := by
  unfold Dg.iKeys; rw [w_bind]; congr 1; funext u μ1
  cases fdcU μ1 u with
  | none => simp [wpE]
  | some kus =>
    simp only [Option.some.injEq, exists_eq_left']
    split
    · rename_i h; simp [h, wpE]
    · rename_i h; simp [h, wpE]
end
theorem Fr.unlock {μ μ' : Mem} {r : Nat} {kus : List (Key × U)} (h : μ[r]? = some (.dct kus)) (f : Fr (μ.set r (.fdc kus)) μ') : Fr μ (μ'.set r (.dct kus)) := by
  have hl := get_lt h
  have hr : μ'[r]? = some (.fdc kus) := f.at_ _ _ (get_set h)
  refine ⟨by have := f.le; simp at this ⊢; omega, fun i c hi => ?_⟩
  by_cases e : i = r
  · subst e
    rw [h] at hi
    cases hi
    exact get_set hr
  · exact get_set_ne (f.at_ _ _ (get_set_ne hi (Ne.symm e))) (Ne.symm e)
theorem atI_toNat {α : Type} {xs : List α} {i : Int} (h0 : 0 ≤ i) (h : i.toNat < xs.length) : atI xs i = some xs[i.toNat] := by
  obtain ⟨n, rfl⟩ := Int.eq_ofNat_of_zero_le h0
  rw [Dg.atI_nat]
  simp only [Int.toNat_natCast] at h ⊢
  exact List.getElem?_eq_getElem h
theorem cutU_take {α : Type} {us : List α} {n : Int} (h : 0 ≤ n) : cutU us none (some n) = us.take n.toNat := by
  unfold cutU
  obtain ⟨m, rfl⟩ := Int.eq_ofNat_of_zero_le h
  show (us.drop 0).take (HT.sIx us.length us.length (some (m : Int)) - 0) = _
  rw [HT.sIx_nat]
  simp only [List.drop_zero, Nat.sub_zero, Int.toNat_natCast]
  rcases Nat.le_total m us.length with h | h
  · rw [Nat.min_eq_left h]
  · rw [Nat.min_eq_right h, List.take_of_length_le (Nat.le_refl _), List.take_of_length_le h]
theorem cutU_drop {α : Type} {us : List α} {n : Int} (h : 0 ≤ n) : cutU us (some n) none = us.drop n.toNat := by
  unfold cutU
  obtain ⟨m, rfl⟩ := Int.eq_ofNat_of_zero_le h
  rw [HT.sIx_nat]
  show (us.drop (min m us.length)).take (us.length - min m us.length) = _
  simp only [Int.toNat_natCast]
  rcases Nat.le_total m us.length with h | h
  · rw [Nat.min_eq_left h, List.take_of_length_le (by simp)]
  · rw [Nat.min_eq_right h, List.drop_of_length_le (Nat.le_refl _), List.drop_of_length_le h]; simp
theorem w_geXI {i j : Int} {μ : Mem} {Q : U → Mem → Prop} {E : Str → Mem → Prop} : wpE (uGeX (.int i) (.int j) μ) Q E = Q (.bl (decide (j ≤ i))) μ := propext ⟨fun h => h, fun h => h⟩
theorem w_geXP {a b c d : Int} {μ : Mem} {Q : U → Mem → Prop} {E : Str → Mem → Prop} : wpE (uGeX (.tup [.int a, .int b]) (.tup [.int c, .int d]) μ) Q E = Q (.bl (!ltPr (a, b) (c, d))) μ := propext ⟨fun h => h, fun h => h⟩
theorem w_lz {ma : FA} {s : Slots} {μ : Mem} {Q : U → Mem → Prop} {E : Str → Mem → Prop} : wpE (fLz ma s μ) Q E = wpE (ma s μ) (fun us μ1 => ∃ xs ys, us = [.tup xs, .tup ys] ∧ Q (.ref μ1.length) (μ1 ++ [.lst (List.zipWith (fun x y => .tup [x, y]) xs ys)])) E := by
  unfold fLz; rw [w_bind]; congr 1; funext us μ1
  apply propext
  constructor
  · intro h
    split at h
    · rename_i xs ys; exact ⟨xs, ys, rfl, h⟩
    · exact h.elim
  · rintro ⟨xs, ys, rfl, q⟩; exact q
local macro_rules | `(tactic| walk_at "go") => `(tactic| simp (config := {decide := true}) only [w_run, w_geXI, w_geXP, w_lz, w_op, w_isi, Dg.wipeU, w_powI, w_intB, w_sl, w_oNone, w_oSome, w_slT, w_slF, w_ixF, w_lenF, w_abs, w_max2, w_min2, w_fdivI, w_neg, w_andE, w_orE, w_notE, w_chain, w_c, w_var, w_call, w_def, w_anil, w_acons, w_tup, w_lst, w_int, w_intB, w_lenT, w_addI, w_subI, w_modI, w_mulI, w_ltI, w_leI, w_gtI, w_geI, w_eq, w_ne, w_ixT, w_if, w_nt, w_an, w_or, w_all, w_tstB, w_tst, w_app, w_lc, w_for, w_iseqT, w_rg1, w_rev1, w_d0, Dg.eq_str, Dg.eq_int, s_seq, s_next, s_brk, s_cnt, s_expr, s_ret, s_retN, s_if, w_getE, w_items, w_keys, w_fmt, w_js0, w_js, s_asg1, s_store, s_tryAs, s_try, w_isX, s_raise, List.map_cons, List.map_nil, List.cons_append, List.nil_append, List.length_cons, List.length_nil, List.replicate_succ, List.replicate_zero, Nat.add_sub_cancel, Nat.sub_self, Nat.sub_zero, Nat.reduceAdd, Nat.reduceSub, Nat.zero_add, List.set_cons_succ, List.set_cons_zero, List.getElem?_cons_zero, List.getElem?_cons_succ, Option.some.injEq, exists_eq_left', exists_eq_left, exists_eq_right', U.bl.injEq, U.int.injEq, U.ref.injEq, U.str.injEq, atI_0, atI_1, atI_2, atI_3, atI_4, atI_5, if_true, if_false, true_and, and_true, decide_true, decide_false, Bool.not_true, Bool.not_false, reduceCtorEq, ite_true, ite_false, decide_eq_true_eq, Bool.true_eq_false, Bool.false_eq_true])
/-! instances, enumerate, list(range(n)) -/
section
variable {s : Slots} {μ : Mem} {D : Dn} {E : Str → Mem → Prop}
theorem isO_is {r : Nat} {c : Str} {fs : List (Str × U)} (h : μ[r]? = some (.obj c fs)) : isO c μ (.ref r) = some fs := by
  unfold isO
  simp only [h, if_true]
theorem w_fld {c f : Str} {a : FE} {Q : U → Mem → Prop} : wpE (fFld c f a s μ) Q E = wpE (a s μ) (fun u μ1 => ∃ fs, isO c μ1 u = some fs ∧ ∃ v, fs.lookup f = some v ∧ Q v μ1) E := by
  unfold fFld; rw [w_bind]; congr 1; funext u μ1
  unfold gFld
  cases isO c μ1 u with
  | none => simp [wpE]
  | some fs =>
    simp only [Option.some.injEq, exists_eq_left']
    cases h : fs.lookup f with
    | none => simp [wpE]
    | some v => simp [wpE]
theorem s_fld {c f : Str} {o a : FE} : Dg.wpS (sFldS c f o a s μ) D = wpE (a s μ) (fun v μ1 => wpE (o s μ1) (fun u μ2 => ∃ μ3, stO c f v u μ2 = some μ3 ∧ D.nx s μ3) (fun c μ => D.ex c s μ)) (fun c μ => D.ex c s μ) := by
  unfold sFldS; rw [w_ofR]; congr 1; funext v μ1; rw [w_ofR]; congr 1; funext u μ2
  cases stO c f v u μ2 <;> simp [Dg.wpS]
theorem stO_is {r : Nat} {c f : Str} {fs : List (Str × U)} {v : U} (h : μ[r]? = some (.obj c fs)) (hl : fs.length < 1000) : stO c f v (.ref r) μ = some (μ.set r (.obj c (putFU f v fs))) := by
  unfold stO
  simp only [isO_is h, if_pos hl]
theorem w_noEx {r : Res U} {Q : U → Mem → Prop} : wpE (noEx r) Q E = wpE r Q (fun _ _ => False) := by
  cases r <;> simp [noEx, wpE]
theorem w_meth {c m : Str} {n : Nat} {g : List U → Mem → Res U} {o : FE} {a : FA} {Q : U → Mem → Prop} : wpE (fMeth c m n g o a s μ) Q E = wpE (o s μ) (fun u μ1 => ∃ fs, isO c μ1 u = some fs ∧ fs.lookup m = none ∧ wpE (a s μ1) (fun us μ2 => us.length + 1 = n ∧ wpE (g (u :: us) μ2) Q (fun _ _ => False)) E) E := by
  unfold fMeth; rw [w_bind]; congr 1; funext u μ1
  cases isO c μ1 u with
  | none => simp [wpE]
  | some fs =>
    simp only [Option.some.injEq, exists_eq_left']
    cases h : fs.lookup m with
    | some v => simp [wpE]
    | none =>
      simp only [Option.isNone_none, if_true, true_and]
      rw [w_bind]; congr 1; funext us μ2
      split
      · rename_i h; rw [w_noEx]; simp [h]
      · rename_i h; simp [h, wpE]
theorem w_make {c : Str} {n : Nat} {g : List U → Mem → Res U} {a : FA} {Q : U → Mem → Prop} : wpE (fMake c n g a s μ) Q E = wpE (a s μ) (fun us μ1 => us.length + 1 = n ∧ wpE (g (.ref μ1.length :: us) (μ1 ++ [.obj c []])) (fun w μ2 => w = .non ∧ Q (.ref μ1.length) μ2) (fun _ _ => False)) E := by
  unfold fMake; rw [w_bind]; congr 1; funext us μ1
  split
  · rename_i h
    simp only [h, true_and]
    cases g (.ref μ1.length :: us) (μ1 ++ [.obj c []]) with
    | ok w μ2 => cases w <;> simp [wpE]
    | ex c m => simp [wpE]
    | bad => simp [wpE]
  · rename_i h; simp [h, wpE]
theorem w_enum {a : FE} {Q : IterU → Mem → Prop} : wpE (iEnumU a s μ) Q E = wpE (a s μ) (fun u μ1 => ∃ r, u = .ref r ∧ ∃ us, listAt μ1 r = some us ∧ Q (.enum r) μ1) E := by
  unfold iEnumU; rw [w_bind]; congr 1; funext u μ1
  cases u with
  | ref r =>
    simp only [U.ref.injEq, exists_eq_left']
    cases listAt μ1 r <;> simp [wpE]
  | _ => simp [wpE]
theorem item_enum {r i : Nat} {us : List U} (h : μ[r]? = some (.lst us)) : Dg.itemAt (.enum r) i μ = some (us[i]?.map fun u => .tup [.int (i : Nat), u]) := by
  simp only [Dg.itemAt, listAt_L h, Option.map_some]
theorem for_enum {r : Nat} {g : Tgt} {b : FS} (us : List U) (I : Nat → Slots → Mem → Prop) (hn : us.length < 1000000) (h0 : I 0 s μ) (hc : ∀ i s μ, I i s μ → μ[r]? = some (.lst us))
    (step : ∀ i s μ (h : i < us.length), I i s μ → ∃ s1, setT g (.tup [.int (i : Nat), us[i]]) s = some s1 ∧ Dg.wpS (b s1 μ) ⟨I (i + 1), D.rt, D.nx, I (i + 1), D.ex⟩) (fin : ∀ s μ, I us.length s μ → D.nx s μ) : Dg.wpS (sForGo g b fuelF (.enum r) 0 s μ) D := by
  refine for_go (fun i s μ => i ≤ us.length ∧ I i s μ) us.length hn ⟨by omega, h0⟩ (fun i s μ h => h.1) ?_
  rintro i s μ ⟨hi, h⟩
  rw [item_enum (hc i s μ h)]
  by_cases e : i < us.length
  · right
    obtain ⟨s1, e1, h1⟩ := step i s μ e h
    refine ⟨_, s1, by rw [List.getElem?_eq_getElem e]; rfl, e1, ?_⟩
    have : Dg.wpS (b s1 μ) ⟨fun s μ => i + 1 ≤ us.length ∧ I (i + 1) s μ, D.rt, D.nx, fun s μ => i + 1 ≤ us.length ∧ I (i + 1) s μ, D.ex⟩ := by
      cases hb : b s1 μ <;> rw [hb] at h1 <;> first | exact ⟨e, h1⟩ | exact h1
    exact this
  · left
    have : i = us.length := by omega
    subst this
    exact ⟨by rw [List.getElem?_eq_none (Nat.le_refl _)]; rfl, fin s μ h⟩
end
open TL (tl ext_tl tl_append joinL)
section
variable {s : Slots} {μ : Mem} {Q : U → Mem → Prop} {E : Str → Mem → Prop}
theorem w_enumT {a : FE} {us : List U} {Q : IterU → Mem → Prop} (h : a s μ = .ok (.tup us) μ) : wpE (iEnumA a s μ) Q E = Q (.seq (enumL us)) μ := by
  unfold iEnumA; rw [h]; rfl
end
/-- the item of a list at a place that is in it -/
theorem rdU {us : List U} {μ : Mem} {r : Nat} {i : Int} (h0 : 0 ≤ i) (hi : i < (us.length : Nat)) (h : μ[r]? = some (.lst us)) {Q : U → Mem → Prop} {E : Str → Mem → Prop} (q : ∀ u ∈ us, Q u μ) : wpE (ixU (.ref r) (.int i) μ) Q E := by
  obtain ⟨n, rfl⟩ := Int.eq_ofNat_of_zero_le h0
  have hi' : n < us.length := by omega
  rw [w_ixL h, Dg.atI_nat]
  exact ⟨us[n], List.getElem?_eq_getElem hi', q _ (List.getElem_mem _)⟩
theorem eq_bl {a b : Bool} {μ : Mem} : eqU (.bl a) (.bl b) μ = some (decide (a = b)) := by
  cases a <;> cases b <;> rfl
namespace Le
/-! machines without memory, and the least one -/
def stp (R : List (List Int)) (s : Int) (a : Nat) : Int := if s < 0 then -1 else (R.getD s.toNat []).getD a (-1)
def wlk (R : List (List Int)) (s : Int) (w : List Nat) : Int := w.foldl (stp R) s
def end_ (A : List Bool) (s : Int) : Bool := if s < 0 then false else A.getD s.toNat false
def lng (R : List (List Int)) (A : List Bool) (s : Int) (w : List Nat) : Bool := end_ A (wlk R s w)
structure Wf (L : Nat) (R : List (List Int)) (A : List Bool) : Prop where
  ac : A.length = R.length
  row : ∀ r ∈ R, r.length = L ∧ ∀ t ∈ r, -1 ≤ t ∧ t < R.length
theorem lng_nil {R : List (List Int)} {A : List Bool} {s : Int} : lng R A s [] = end_ A s := rfl
theorem lng_cons {R : List (List Int)} {A : List Bool} {s : Int} {a : Nat} {w : List Nat} : lng R A s (a :: w) = lng R A (stp R s a) w := rfl
theorem wlk_neg {R : List (List Int)} {s : Int} (h : s < 0) : ∀ w : List Nat, wlk R s w < 0
  | [] => h
  | a :: w => by
    show wlk R (stp R s a) w < 0
    unfold stp
    rw [if_pos h]
    exact wlk_neg (by decide) w
theorem lng_neg {R : List (List Int)} {A : List Bool} {s : Int} (h : s < 0) (w : List Nat) : lng R A s w = false := by
  unfold lng end_
  rw [if_pos (wlk_neg h w)]
section
variable {L : Nat} {R : List (List Int)} {A : List Bool}
theorem Wf.stp_in (h : Wf L R A) {s : Int} {a : Nat} : -1 ≤ stp R s a ∧ (stp R s a < R.length) := by
  unfold stp
  split
  · exact ⟨by omega, by omega⟩
  · rw [List.getD_eq_getElem?_getD, List.getD_eq_getElem?_getD]
    cases e : R[s.toNat]? with
    | none => exact ⟨by simp, by simp; omega⟩
    | some r =>
      simp only [Option.getD_some]
      have hr := (h.row r (List.mem_of_getElem? e)).2
      cases e2 : r[a]? with
      | none => exact ⟨by simp, by simp; omega⟩
      | some t => exact hr t (List.mem_of_getElem? e2)
theorem Wf.stp_big (h : Wf L R A) {s : Int} {a : Nat} (ha : L ≤ a) : stp R s a = -1 := by
  unfold stp
  split
  · rfl
  · rw [List.getD_eq_getElem?_getD, List.getD_eq_getElem?_getD]
    cases e : R[s.toNat]? with
    | none => simp
    | some r =>
      simp only [Option.getD_some]
      rw [List.getElem?_eq_none (by rw [(h.row r (List.mem_of_getElem? e)).1]; exact ha)]
      rfl
end
/-! numbers as they are first met -/
def cnt : Nat → List Int → Option Nat
  | k, [] => some k
  | k, e :: es => if e < (k : Int) then cnt k es else if e = (k : Int) then cnt (k + 1) es else none
def Num : Nat → Nat → List (List Int) → Nat → Prop
  | i, k, [], n => i = n ∧ k = n
  | i, k, r :: rs, n => i < k ∧ ∃ k', cnt k r = some k' ∧ Num (i + 1) k' rs n
structure Canon (L : Nat) (Λ : List Nat → Bool) (R : List (List Int)) (A : List Bool) : Prop where
  wf : Wf L R A
  lang : ∀ w, lng R A 0 w = Λ w
  live : ∀ i : Nat, i < R.length → ∃ w, lng R A i w = true
  dist : ∀ i j : Nat, i < R.length → j < R.length → (∀ w, lng R A i w = lng R A j w) → i = j
  num : R ≠ [] → Num 0 1 R R.length
section
variable {L : Nat} {R R' : List (List Int)} {A A' : List Bool} {Λ : List Nat → Bool}
/-- one entry -/
theorem entry (w : Wf L R A) (w' : Wf L R' A') (lv : ∀ i : Nat, i < R.length → ∃ w, lng R A i w = true) (lv' : ∀ i : Nat, i < R'.length → ∃ w, lng R' A' i w = true)
    (ds' : ∀ i j : Nat, i < R'.length → j < R'.length → (∀ w, lng R' A' i w = lng R' A' j w) → i = j) {k : Nat} (hk' : k ≤ R'.length) (H : ∀ j : Nat, j < k → ∀ w, lng R A j w = lng R' A' j w)
    {e e' : Int} (he : -1 ≤ e ∧ e < R.length) (he' : -1 ≤ e' ∧ e' < R'.length) (hl : ∀ w, lng R A e w = lng R' A' e' w) (hlt : e < k) : e = e' := by
  by_cases h0 : e < 0
  · by_cases h0' : e' < 0
    · omega
    · obtain ⟨v, hv⟩ := lv' e'.toNat (by omega)
      rw [show ((e'.toNat : Nat) : Int) = e' by omega, ← hl, lng_neg h0] at hv
      cases hv
  · have hn : ∃ j : Nat, e = j := ⟨e.toNat, by omega⟩
    obtain ⟨j, rfl⟩ := hn
    obtain ⟨v, hv⟩ := lv j (by omega)
    by_cases h0' : e' < 0
    · rw [hl, lng_neg h0'] at hv; cases hv
    · have hn' : ∃ j' : Nat, e' = j' := ⟨e'.toNat, by omega⟩
      obtain ⟨j', rfl⟩ := hn'
      have := ds' j j' (by omega) (by omega) fun w => by rw [← H j (by omega), hl]
      rw [this]
theorem entries (w : Wf L R A) (w' : Wf L R' A') (lv : ∀ i : Nat, i < R.length → ∃ w, lng R A i w = true) (lv' : ∀ i : Nat, i < R'.length → ∃ w, lng R' A' i w = true)
    (ds : ∀ i j : Nat, i < R.length → j < R.length → (∀ w, lng R A i w = lng R A j w) → i = j) (ds' : ∀ i j : Nat, i < R'.length → j < R'.length → (∀ w, lng R' A' i w = lng R' A' j w) → i = j) :
    ∀ (es es' : List Int) {k k1 k2 : Nat}, es.length = es'.length → k ≤ R.length → k ≤ R'.length → (∀ j : Nat, j < k → ∀ w, lng R A j w = lng R' A' j w) →
    (∀ e ∈ es, -1 ≤ e ∧ e < R.length) → (∀ e ∈ es', -1 ≤ e ∧ e < R'.length) → (∀ (a : Nat) (e e' : Int), es[a]? = some e → es'[a]? = some e' → ∀ w, lng R A e w = lng R' A' e' w) → cnt k es = some k1 → cnt k es' = some k2 →
    es = es' ∧ k1 = k2 ∧ k1 ≤ R.length ∧ k1 ≤ R'.length ∧ ∀ j : Nat, j < k1 → ∀ w, lng R A j w = lng R' A' j w
  | [], es', k, k1, k2, hl, hk, hk', H, _, _, _, c1, c2 => by
    cases es' with
    | nil => cases c1; cases c2; exact ⟨rfl, rfl, hk, hk', H⟩
    | cons _ _ => simp at hl
  | e :: es, es', k, k1, k2, hl, hk, hk', H, he, he', hla, c1, c2 => by
    cases es' with
    | nil => simp at hl
    | cons e' es' =>
      have b := he e (by simp)
      have b' := he' e' (by simp)
      have l0 := hla 0 e e' rfl rfl
      have rest : ∀ {k : Nat}, k ≤ R.length → k ≤ R'.length → (∀ j : Nat, j < k → ∀ w, lng R A j w = lng R' A' j w) → cnt k es = some k1 → cnt k es' = some k2 → e = e' →
          e :: es = e' :: es' ∧ k1 = k2 ∧ k1 ≤ R.length ∧ k1 ≤ R'.length ∧ ∀ j : Nat, j < k1 → ∀ w, lng R A j w = lng R' A' j w := by
        intro k hk hk' H c1 c2 ee
        obtain ⟨q1, q2⟩ := entries w w' lv lv' ds ds' es es' (by simpa using hl) hk hk' H (fun x hx => he x (by simp [hx])) (fun x hx => he' x (by simp [hx])) (fun a x x' h1 h2 => hla (a + 1) x x' (by simpa using h1) (by simpa using h2)) c1 c2
        exact ⟨by rw [ee, q1], q2⟩
      unfold cnt at c1 c2
      by_cases h1 : e < (k : Int)
      · have ee := entry w w' lv lv' ds' hk' H b b' l0 h1
        subst ee
        rw [if_pos h1] at c1 c2
        exact rest hk hk' H c1 c2 rfl
      · by_cases h2 : e' < (k : Int)
        · have ee := entry w' w lv' lv ds hk (fun j hj w => (H j hj w).symm) b' b (fun w => (l0 w).symm) h2
          omega
        · rw [if_neg h1] at c1
          rw [if_neg h2] at c2
          split at c1
          · split at c2
            · rename_i e1 e2
              refine rest (by omega) (by omega) (fun j hj w => ?_) c1 c2 (by omega)
              by_cases h : j < k
              · exact H j h w
              · have : (j : Int) = e := by omega
                have e3 : (j : Int) = e' := by omega
                rw [this, l0 w, ← e3, this]
            · cases c2
          · cases c1
theorem row_get (w : Wf L R A) {i : Nat} {r : List Int} (h : R[i]? = some r) : (∀ (a : Nat) (e : Int), r[a]? = some e → stp R i a = e) ∧ r.length = L ∧ ∀ e ∈ r, -1 ≤ e ∧ e < R.length := by
  refine ⟨fun a e he => ?_, w.row r (List.mem_of_getElem? h)⟩
  unfold stp
  rw [if_neg (by omega), List.getD_eq_getElem?_getD, List.getD_eq_getElem?_getD, Int.toNat_natCast, h]
  simp [he]
theorem uniq_rows (c : Canon L Λ R A) (c' : Canon L Λ R' A') : ∀ (rs rs' P : List (List Int)) {k : Nat}, R = P ++ rs → R' = P ++ rs' → k ≤ R.length → k ≤ R'.length →
    (∀ j : Nat, j < k → ∀ w, lng R A j w = lng R' A' j w) → Num P.length k rs R.length → Num P.length k rs' R'.length → rs = rs' ∧ ∀ j : Nat, j < R.length → ∀ w, lng R A j w = lng R' A' j w
  | [], rs', P, k, e, e', hk, hk', H, n, n' => by
    cases rs' with
    | nil => exact ⟨rfl, fun j hj => H j (by have := n.2; omega)⟩
    | cons r' rs' =>
      have h1 := n.1
      have h2 := n.2
      have h3 := n'.1
      omega
  | r :: rs, rs', P, k, e, e', hk, hk', H, n, n' => by
    cases rs' with
    | nil =>
      have h1 := n'.1
      have h2 := n'.2
      have h3 := n.1
      omega
    | cons r' rs' =>
      obtain ⟨h1, k1, c1, n1⟩ := n
      obtain ⟨_, k2, c2, n2⟩ := n'
      have g : R[P.length]? = some r := by rw [e]; simp
      have g' : R'[P.length]? = some r' := by rw [e']; simp
      obtain ⟨a1, a2, a3⟩ := row_get c.wf g
      obtain ⟨b1, b2, b3⟩ := row_get c'.wf g'
      obtain ⟨q1, q2, q3, q4, q5⟩ := entries c.wf c'.wf c.live c'.live c.dist c'.dist r r' (by omega) hk hk' H a3 b3 (fun a x x' h2 h3 w => by
        rw [← a1 a x h2, ← b1 a x' h3]
        exact H P.length h1 (a :: w)) c1 c2
      subst q1 q2
      obtain ⟨z1, z2⟩ := uniq_rows c c' rs rs' (P ++ [r]) (k := k1) (by rw [e]; simp) (by rw [e']; simp) q3 q4 q5 (by simpa using n1) (by simpa using n2)
      exact ⟨by rw [z1], z2⟩
/-- there is just one -/
theorem Canon.uniq (c : Canon L Λ R A) (c' : Canon L Λ R' A') : R = R' ∧ A = A' := by
  have nonempty : ∀ {R R' : List (List Int)} {A A' : List Bool}, Canon L Λ R A → Canon L Λ R' A' → R = [] → R' = [] := by
    intro R R' A A' c c' h
    cases hR : R' with
    | nil => rfl
    | cons r rs =>
      obtain ⟨w, hw⟩ := c'.live 0 (by rw [hR]; simp)
      have h1 := c'.lang w
      rw [show ((0 : Nat) : Int) = 0 from rfl] at hw
      rw [hw, ← c.lang w, h] at h1
      have : lng [] A 0 w = false := by
        cases w with
        | nil =>
          have := c.wf.ac
          rw [h] at this
          cases A with
          | nil => rfl
          | cons _ _ => simp at this
        | cons a w => rw [lng_cons]; exact lng_neg (by simp [stp]) w
      rw [this] at h1; cases h1
  by_cases h : R = []
  · have h' := nonempty c c' h
    refine ⟨by rw [h, h'], ?_⟩
    have a := c.wf.ac
    have b := c'.wf.ac
    rw [h] at a
    rw [h'] at b
    rw [List.length_eq_zero_iff.mp a, List.length_eq_zero_iff.mp b]
  · have h' : R' ≠ [] := fun e => h (nonempty c' c e)
    have p : 1 ≤ R.length := by cases R with | nil => exact absurd rfl h | cons _ _ => simp
    have p' : 1 ≤ R'.length := by cases R' with | nil => exact absurd rfl h' | cons _ _ => simp
    obtain ⟨q1, q2⟩ := uniq_rows c c' R R' [] (k := 1) rfl rfl p p' (fun j hj w => by
      have : j = 0 := by omega
      subst this
      exact (c.lang w).trans (c'.lang w).symm) (c.num h) (c'.num h')
    refine ⟨q1, ?_⟩
    subst q1
    refine List.ext_getElem (by rw [c.wf.ac, c'.wf.ac]) fun i h1 h2 => ?_
    have := q2 i (by rw [← c.wf.ac]; exact h1) []
    rw [lng_nil, lng_nil] at this
    unfold end_ at this
    rw [if_neg (by omega), if_neg (by omega), Int.toNat_natCast, List.getD_eq_getElem?_getD, List.getD_eq_getElem?_getD, List.getElem?_eq_getElem h1, List.getElem?_eq_getElem h2] at this
    simpa using this
/-- a machine over representatives -/
theorem canon_of {M : List (List Int)} {B : List Bool} {rp : List Nat} (wf : Wf L M B) (l1 : A.length = R.length) (l2 : rp.length = R.length)
    (e0 : R = [] → ∀ w, Λ w = false) (e1 : ∀ s, rp[0]? = some s → ∀ w, lng M B (s : Nat) w = Λ w) (lv : ∀ (i s : Nat), rp[i]? = some s → ∃ w, lng M B (s : Nat) w = true) (ea : ∀ (i s : Nat), rp[i]? = some s → end_ A i = end_ B (s : Nat))
    (rl : ∀ r ∈ R, r.length = L) (st : ∀ (i s : Nat) (r : List Int), rp[i]? = some s → R[i]? = some r → ∀ (a : Nat) (e : Int), r[a]? = some e → (e = -1 ∧ ∀ w, lng M B (stp M s a) w = false) ∨ ∃ j t : Nat, e = j ∧ rp[j]? = some t ∧ ∀ w, lng M B (t : Nat) w = lng M B (stp M s a) w)
    (ds : ∀ (i j s t : Nat), rp[i]? = some s → rp[j]? = some t → (∀ w, lng M B (s : Nat) w = lng M B (t : Nat) w) → i = j) (nm : R ≠ [] → Num 0 1 R R.length) : Canon L Λ R A := by
  have wfR : Wf L R A := by
    refine ⟨l1, fun r hr => ⟨rl r hr, fun t ht => ?_⟩⟩
    obtain ⟨i, hi⟩ := List.getElem?_of_mem hr
    obtain ⟨a, ha⟩ := List.getElem?_of_mem ht
    have hlt := (List.getElem?_eq_some_iff.mp hi).1
    rcases st i rp[i] r (List.getElem?_eq_getElem (by omega)) hi a t ha with ⟨h, _⟩ | ⟨j, u, rfl, hj, _⟩
    · omega
    · have := (List.getElem?_eq_some_iff.mp hj).1
      omega
  have key : ∀ (w : List Nat) (i s : Nat), rp[i]? = some s → lng R A i w = lng M B (s : Nat) w := by
    intro w
    induction w with
    | nil => exact fun i s h => ea i s h
    | cons a w ih =>
      intro i s h
      rw [lng_cons, lng_cons]
      have hi := (List.getElem?_eq_some_iff.mp h).1
      have hr : R[i]? = some R[i] := List.getElem?_eq_getElem (by omega)
      obtain ⟨b1, b2, b3⟩ := row_get wfR hr
      by_cases ha : a < L
      · have ha2 : (R[i])[a]? = some (R[i])[a] := List.getElem?_eq_getElem (by omega)
        rw [b1 a _ ha2]
        rcases st i s R[i] h hr a _ ha2 with ⟨e, hd⟩ | ⟨j, t, e, hj, hd⟩
        · rw [e, hd w]; exact lng_neg (by decide) w
        · rw [e, ih j t hj, hd w]
      · rw [wfR.stp_big (by omega), wf.stp_big (by omega), lng_neg (by decide), lng_neg (by decide)]
  have at_ : ∀ i : Nat, i < R.length → rp[i]? = some (rp.getD i 0) := fun i hi => by
    rw [List.getD_eq_getElem?_getD, List.getElem?_eq_getElem (by omega)]; rfl
  refine ⟨wfR, fun w => ?_, fun i hi => ?_, fun i j hi hj h => ?_, nm⟩
  · by_cases h : R = []
    · rw [e0 h w]
      subst h
      cases A with
      | cons _ _ => simp at l1
      | nil =>
        cases w with
        | nil => rfl
        | cons a w => rw [lng_cons]; exact lng_neg (by simp [stp]) w
    · have p : 0 < R.length := by cases R with | nil => exact absurd rfl h | cons _ _ => simp
      have := key w 0 _ (at_ 0 p)
      rw [show ((0 : Nat) : Int) = 0 from rfl] at this
      rw [this]
      exact e1 _ (at_ 0 p) w
  · obtain ⟨w, hw⟩ := lv i _ (at_ i hi)
    exact ⟨w, by rw [key w i _ (at_ i hi)]; exact hw⟩
  · exact ds i j _ _ (at_ i hi) (at_ j hj) fun w => by rw [← key w i _ (at_ i hi), ← key w j _ (at_ j hj)]; exact h w
end
end Le
namespace Le
/-! what is met, in order -/
def addR (f : List Int) (es : List Int) : List Int := es.foldl (fun f t => if t ≠ -1 ∧ t ∉ f then f ++ [t] else f) f
def mapd (F : List Int) (es : List Int) : List Int := es.map fun t => if t = -1 then -1 else (F.idxOf t : Int)
def run (f : List Int) (ess : List (List Int)) : List Int := ess.foldl addR f
theorem addR_cons {f : List Int} {e : Int} {es : List Int} : addR f (e :: es) = addR (if e ≠ -1 ∧ e ∉ f then f ++ [e] else f) es := rfl
theorem addR_snoc {f : List Int} {e : Int} {es : List Int} : addR f (es ++ [e]) = (if e ≠ -1 ∧ e ∉ addR f es then addR f es ++ [e] else addR f es) := by
  unfold addR; rw [List.foldl_append]; rfl
theorem addR_ext : ∀ (es f : List Int), ∃ g, addR f es = f ++ g
  | [], f => ⟨[], by simp [addR]⟩
  | e :: es, f => by
    rw [addR_cons]
    obtain ⟨g, h⟩ := addR_ext es (if e ≠ -1 ∧ e ∉ f then f ++ [e] else f)
    rw [h]
    split
    · exact ⟨e :: g, by simp⟩
    · exact ⟨g, rfl⟩
theorem addR_nodup : ∀ (es : List Int) {f : List Int}, f.Nodup → (addR f es).Nodup
  | [], f, h => h
  | e :: es, f, h => by
    rw [addR_cons]
    refine addR_nodup es ?_
    split
    · rename_i c
      rw [List.nodup_append]
      exact ⟨h, by simp, fun a ha b hb => by simp at hb; subst hb; exact fun z => c.2 (z ▸ ha)⟩
    · exact h
theorem addR_mem : ∀ (es : List Int) {f : List Int} {x : Int}, x ∈ addR f es ↔ x ∈ f ∨ (x ∈ es ∧ x ≠ -1)
  | [], f, x => by simp [addR]
  | e :: es, f, x => by
    rw [addR_cons, addR_mem es]
    by_cases c : e ≠ -1 ∧ e ∉ f
    · rw [if_pos c]
      constructor
      · rintro (h | h)
        · rcases List.mem_append.mp h with h | h
          · exact .inl h
          · simp at h; subst h; exact .inr ⟨by simp, c.1⟩
        · exact .inr ⟨by simp [h.1], h.2⟩
      · rintro (h | ⟨h, h2⟩)
        · exact .inl (by simp [h])
        · rcases List.mem_cons.mp h with h | h
          · exact .inl (by simp [h])
          · exact .inr ⟨h, h2⟩
    · rw [if_neg c]
      constructor
      · rintro (h | h)
        · exact .inl h
        · exact .inr ⟨by simp [h.1], h.2⟩
      · rintro (h | ⟨h, h2⟩)
        · exact .inl h
        · rcases List.mem_cons.mp h with h | h
          · subst h
            refine .inl ?_
            by_cases m : x ∈ f
            · exact m
            · exact absurd ⟨h2, m⟩ c
          · exact .inr ⟨h, h2⟩
theorem run_ext : ∀ (ess : List (List Int)) (f : List Int), ∃ g, run f ess = f ++ g
  | [], f => ⟨[], by simp [run]⟩
  | e :: ess, f => by
    obtain ⟨g, h⟩ := addR_ext e f
    obtain ⟨g2, h2⟩ := run_ext ess (addR f e)
    exact ⟨g ++ g2, by show run (addR f e) ess = _; rw [h2, h]; simp⟩
theorem run_nodup : ∀ (ess : List (List Int)) {f : List Int}, f.Nodup → (run f ess).Nodup
  | [], f, h => h
  | e :: ess, f, h => run_nodup ess (f := addR f e) (addR_nodup e h)
theorem run_snoc {f : List Int} {ess : List (List Int)} {es : List Int} : run f (ess ++ [es]) = addR (run f ess) es := by
  unfold run; rw [List.foldl_append]; rfl
theorem cnt_addR : ∀ (es f : List Int) {F rest : List Int}, F = addR f es ++ rest → F.Nodup → cnt f.length (mapd F es) = some (addR f es).length
  | [], f, F, rest, e, nd => rfl
  | x :: es, f, F, rest, e, nd => by
    rw [addR_cons] at e ⊢
    unfold mapd
    rw [List.map_cons]
    show cnt f.length ((if x = -1 then -1 else (F.idxOf x : Int)) :: mapd F es) = _
    by_cases h1 : x = -1
    · rw [if_pos h1]
      unfold cnt
      rw [if_pos (by omega)]
      rw [if_neg (by simp [h1])] at e ⊢
      exact cnt_addR es f e nd
    · rw [if_neg h1]
      by_cases h2 : x ∈ f
      · rw [if_neg (by simp [h2])] at e ⊢
        obtain ⟨g, hg⟩ := addR_ext es f
        have hi : F.idxOf x < f.length := by
          rw [e, hg, List.append_assoc, List.idxOf_append, if_pos h2]
          exact List.idxOf_lt_length_of_mem h2
        unfold cnt
        rw [if_pos (by omega)]
        exact cnt_addR es f e nd
      · have hc : x ≠ -1 ∧ x ∉ f := ⟨h1, h2⟩
        rw [if_pos hc] at e ⊢
        obtain ⟨g, hg⟩ := addR_ext es (f ++ [x])
        have hi : F.idxOf x = f.length := by
          rw [e, hg, List.append_assoc, List.append_assoc, List.idxOf_append, if_neg h2]
          simp
        unfold cnt
        rw [hi, if_neg (by omega), if_pos rfl]
        have := cnt_addR es (f ++ [x]) e nd
        rwa [show (f ++ [x]).length = f.length + 1 by simp] at this
theorem num_run : ∀ (ess : List (List Int)) {f F : List Int} {i : Nat}, F = run f ess → F.Nodup → (∀ j, j < ess.length → i + j < (run f (ess.take j)).length) → F.length = i + ess.length → Num i f.length (ess.map (mapd F)) F.length
  | [], f, F, i, e, nd, h, hl => by
    have : F = f := e
    subst this
    exact ⟨by simpa using hl.symm, rfl⟩
  | es :: ess, f, F, i, e, nd, h, hl => by
    have e' : F = run (addR f es) ess := e
    obtain ⟨g, hg⟩ := run_ext ess (addR f es)
    refine ⟨by have := h 0 (by simp); simpa [run] using this, _, cnt_addR es f (e'.trans hg) nd, ?_⟩
    refine num_run ess e' nd (fun j hj => ?_) (by rw [hl]; simp; omega)
    have := h (j + 1) (by simp; omega)
    rw [List.take_succ_cons] at this
    have e2 : run f (es :: ess.take j) = run (addR f es) (ess.take j) := rfl
    rw [e2] at this
    omega
/-! rounds come to rest -/
theorem countP_lt {α : Type} {p q : α → Bool} {a : α} : ∀ {l : List α}, a ∈ l → p a = false → q a = true → (∀ x ∈ l, p x = true → q x = true) → l.countP p + 1 ≤ l.countP q
  | [], h, _, _, _ => by simp at h
  | x :: l, h, hp, hq, hx => by
    rw [List.countP_cons, List.countP_cons]
    rcases List.mem_cons.mp h with h | h
    · subst h
      have : l.countP p ≤ l.countP q := List.countP_mono_left fun x hm => hx x (List.mem_cons_of_mem _ hm)
      rw [hp, hq]; simp; omega
    · have := countP_lt h hp hq fun x hm => hx x (List.mem_cons_of_mem _ hm)
      by_cases c : p x = true
      · rw [c, hx x (by simp) c]; omega
      · simp only [c]; split <;> simp at * <;> omega
def rootB (K : Nat → Int) (s : Nat) : Bool := decide (∀ t, t < s → K t ≠ K s)
theorem root_ex (K : Nat → Int) : ∀ n s : Nat, s ≤ n → ∃ u, u ≤ s ∧ K u = K s ∧ rootB K u = true := by
  intro n
  induction n with
  | zero => exact fun s hs => ⟨s, Nat.le_refl _, rfl, by unfold rootB; simp; omega⟩
  | succ n ih =>
    intro s hs
    by_cases h : ∀ t, t < s → K t ≠ K s
    · exact ⟨s, Nat.le_refl _, rfl, by unfold rootB; exact decide_eq_true h⟩
    · have : ∃ t, t < s ∧ K t = K s := by
        apply Classical.byContradiction
        intro hn
        exact h fun t ht e => hn ⟨t, ht, e⟩
      obtain ⟨t, ht, e⟩ := this
      obtain ⟨u, a, b, c⟩ := ih t (by omega)
      exact ⟨u, by omega, b.trans e, c⟩
theorem rounds {n : Nat} {K : Nat → Nat → Int} (h1 : ∀ r s t, s < n → t < n → K (r + 1) s = K (r + 1) t → K r s = K r t)
    (h2 : ∀ r, (∀ s t, s < n → t < n → K r s = K r t → K (r + 1) s = K (r + 1) t) → ∀ s t, s < n → t < n → K (r + 1) s = K (r + 1) t → K (r + 2) s = K (r + 2) t) :
    ∀ s t, s < n → t < n → K n s = K n t → K (n + 1) s = K (n + 1) t := by
  by_cases hn : n = 0
  · intro s t hs; omega
  let St := fun r => ∀ s t, s < n → t < n → K r s = K r t → K (r + 1) s = K (r + 1) t
  have claim : ∀ r, St r ∨ r + 1 ≤ (List.range n).countP (rootB (K r)) := by
    intro r
    induction r with
    | zero =>
      refine .inr ?_
      have : 0 < (List.range n).countP (rootB (K 0)) := List.countP_pos_iff.mpr ⟨0, List.mem_range.mpr (by omega), by unfold rootB; simp⟩
      omega
    | succ r ih =>
      by_cases st : St r
      · exact .inl (h2 r st)
      · rcases ih with h | h
        · exact absurd h st
        · refine .inr ?_
          have : ∃ s t, s < n ∧ t < n ∧ K r s = K r t ∧ K (r + 1) s ≠ K (r + 1) t := by
            apply Classical.byContradiction
            intro hx
            apply st
            intro s t hs ht e
            apply Classical.byContradiction
            intro ne
            exact hx ⟨s, t, hs, ht, e, ne⟩
          obtain ⟨s, t, hs, ht, e, ne⟩ := this
          obtain ⟨u, u1, u2, u3⟩ := root_ex (K (r + 1)) s s (Nat.le_refl _)
          obtain ⟨v, v1, v2, v3⟩ := root_ex (K (r + 1)) t t (Nat.le_refl _)
          have huv : u ≠ v := fun z => ne (by rw [← u2, z, v2])
          have eu := h1 r u s (by omega) hs u2
          have ev := h1 r v t (by omega) ht v2
          have mono : ∀ x ∈ List.range n, rootB (K r) x = true → rootB (K (r + 1)) x = true := by
            intro x hx hr
            have hx' := List.mem_range.mp hx
            have hr' := of_decide_eq_true hr
            exact decide_eq_true fun t ht e => hr' t ht (h1 r t x (by omega) hx' e)
          have fin : ∀ a b, a < b → b < n → K r a = K r b → rootB (K (r + 1)) b = true → (List.range n).countP (rootB (K r)) + 1 ≤ (List.range n).countP (rootB (K (r + 1))) := by
            intro a b hab hb e rb
            refine countP_lt (a := b) (List.mem_range.mpr hb) ?_ rb mono
            unfold rootB
            exact decide_eq_false fun hx => hx a hab e
          rcases Nat.lt_or_gt_of_ne huv with hh | hh
          · have := fin u v hh (by omega) (by rw [eu, ev, e]) v3; omega
          · have := fin v u hh (by omega) (by rw [eu, ev, e]) u3; omega
  rcases claim n with h | h
  · exact h
  · have := List.countP_le_length (p := rootB (K n)) (l := List.range n)
    rw [List.length_range] at this
    omega
end Le
namespace Le
/-! blocks -/
structure St where
  bo : List Nat
  ms : List (List Nat)
  pd : List Nat
def St.β (S : St) (s : Nat) : Nat := S.bo.getD s 0
structure St.ok (n : Nat) (S : St) : Prop where
  bl : S.bo.length = n
  mem : ∀ (b : Nat) (l : List Nat), S.ms[b]? = some l → ∀ k, k ∈ l ↔ (k < n ∧ S.β k = b)
  nd : ∀ l ∈ S.ms, l.Nodup
  ne : ∀ l ∈ S.ms, l ≠ []
  lt : ∀ s, s < n → S.β s < S.ms.length
  pd : ∀ b ∈ S.pd, b < S.ms.length
theorem St.ok.few {n : Nat} {S : St} (h : S.ok n) : S.ms.length ≤ n := by
  have hd : ∀ b (l : List Nat), S.ms[b]? = some l → ∃ k, l.head? = some k ∧ k < n ∧ S.β k = b := by
    intro b l e
    cases l with
    | nil => exact absurd rfl (h.ne _ (List.mem_of_getElem? e))
    | cons k r => exact ⟨k, rfl, (h.mem b _ e k).mp (by simp)⟩
  have nd : (S.ms.map fun l => l.head?.getD 0).Nodup := by
    rw [List.nodup_iff_pairwise_ne, List.pairwise_iff_getElem]
    intro i j hi hj hij e
    rw [List.length_map] at hi hj
    rw [List.getElem_map, List.getElem_map] at e
    obtain ⟨k, a, _, b⟩ := hd i _ (List.getElem?_eq_getElem hi)
    obtain ⟨k', a', _, b'⟩ := hd j _ (List.getElem?_eq_getElem hj)
    rw [a, a'] at e
    simp at e
    subst e
    omega
  have := nd.length_le_of_subset (l₂ := List.range n) fun x hx => by
    obtain ⟨l, hl, rfl⟩ := List.mem_map.mp hx
    obtain ⟨b, e⟩ := List.getElem?_of_mem hl
    obtain ⟨k, a, b, _⟩ := hd b l e
    rw [a]
    exact List.mem_range.mpr b
  simpa using this
def mvBo (bo P : List Nat) (m : Nat) : List Nat := P.foldl (fun bo s => bo.set s m) bo
theorem mvBo_len {m : Nat} : ∀ (P bo : List Nat), (mvBo bo P m).length = bo.length
  | [], bo => rfl
  | s :: P, bo => by
    show (mvBo (bo.set s m) P m).length = _
    rw [mvBo_len P]; simp
theorem mvBo_get {m : Nat} : ∀ (P bo : List Nat), (∀ s ∈ P, s < bo.length) → ∀ s, (mvBo bo P m).getD s 0 = if s ∈ P then m else bo.getD s 0
  | [], bo, _, s => by simp [mvBo]
  | x :: P, bo, h, s => by
    show (mvBo (bo.set x m) P m).getD s 0 = _
    rw [mvBo_get P _ (fun y hy => by rw [List.length_set]; exact h y (by simp [hy]))]
    by_cases h1 : s ∈ P
    · rw [if_pos h1, if_pos (by simp [h1])]
    · rw [if_neg h1]
      by_cases h2 : s = x
      · subst h2
        rw [if_pos (by simp), List.getD_eq_getElem?_getD, List.getElem?_set_self (h s (by simp))]
        rfl
      · rw [if_neg (by simp [h1, h2]), List.getD_eq_getElem?_getD, List.getD_eq_getElem?_getD, List.getElem?_set_ne (Ne.symm h2)]
def St.mv (S : St) (P : List Nat) (b : Nat) : St := ⟨mvBo S.bo P S.ms.length, S.ms.set b ((S.ms.getD b []).filter fun s => decide (s ∉ P)) ++ [P], S.pd ++ [S.ms.length]⟩
section
variable {n : Nat} {S S0 S1 S2 : St} {P l X : List Nat} {b : Nat}
theorem mv_β (h : S.ok n) (hP : ∀ s ∈ P, s < n) (s : Nat) : (S.mv P b).β s = if s ∈ P then S.ms.length else S.β s := mvBo_get P S.bo (fun s hs => by rw [h.bl]; exact hP s hs) s
theorem mv_len : (S.mv P b).ms.length = S.ms.length + 1 := by simp [St.mv]
theorem mv_ok (h : S.ok n) (hl : S.ms[b]? = some l) (nd : P.Nodup) (ne : P ≠ []) (sub : ∀ s ∈ P, s ∈ l) (pr : ∃ s ∈ l, s ∉ P) : (S.mv P b).ok n := by
  have hb := (List.getElem?_eq_some_iff.mp hl).1
  have lt : ∀ s ∈ P, s < n := fun s hs => ((h.mem b l hl s).mp (sub s hs)).1
  have inb : ∀ s ∈ P, S.β s = b := fun s hs => ((h.mem b l hl s).mp (sub s hs)).2
  have gl : S.ms.getD b [] = l := by rw [List.getD_eq_getElem?_getD, hl]; rfl
  have hm : (S.mv P b).ms = S.ms.set b (l.filter fun s => decide (s ∉ P)) ++ [P] := by unfold St.mv; rw [gl]
  refine ⟨by unfold St.mv; rw [mvBo_len]; exact h.bl, fun c l' e k => ?_, fun l' hl' => ?_, fun l' hl' => ?_, fun s hs => ?_, fun c hc => ?_⟩
  · rw [mv_β h lt]
    rw [hm, List.getElem?_append] at e
    rw [List.length_set] at e
    split at e
    · rename_i hc
      rw [List.getElem?_set] at e
      by_cases hcb : b = c
      · subst hcb
        rw [if_pos rfl, if_pos hb] at e
        cases e
        rw [List.mem_filter, h.mem b l hl k]
        by_cases hk : k ∈ P
        · simp [hk]; intro _ e; omega
        · simp [hk]
      · rw [if_neg hcb] at e
        rw [h.mem c l' e k]
        by_cases hk : k ∈ P
        · rw [if_pos hk, inb k hk]
          constructor
          · rintro ⟨_, e⟩; omega
          · rintro ⟨_, e⟩; omega
        · rw [if_neg hk]
    · rename_i hc
      have : c - S.ms.length = 0 := by
        have := (List.getElem?_eq_some_iff.mp e).1
        simp at this; omega
      rw [this] at e
      cases e
      have hcm : c = S.ms.length := by omega
      constructor
      · intro hk
        exact ⟨lt k hk, by rw [if_pos hk, hcm]⟩
      · rintro ⟨hk, e⟩
        by_cases hkP : k ∈ P
        · exact hkP
        · rw [if_neg hkP] at e
          have := h.lt k hk
          omega
  · rw [hm] at hl'
    rcases List.mem_append.mp hl' with hl' | hl'
    · rcases List.mem_or_eq_of_mem_set hl' with hl' | rfl
      · exact h.nd _ hl'
      · exact (h.nd l (List.mem_of_getElem? hl)).filter _
    · simp at hl'; subst hl'; exact nd
  · rw [hm] at hl'
    rcases List.mem_append.mp hl' with hl' | hl'
    · rcases List.mem_or_eq_of_mem_set hl' with hl' | rfl
      · exact h.ne _ hl'
      · obtain ⟨s, a, c⟩ := pr
        exact List.ne_nil_of_mem (List.mem_filter.mpr ⟨a, by simpa using c⟩)
    · simp at hl'; subst hl'; exact ne
  · rw [mv_β h lt, mv_len]
    split
    · omega
    · have := h.lt s hs; omega
  · rw [mv_len]
    rcases List.mem_append.mp hc with hc | hc
    · have := h.pd c hc; omega
    · simp at hc; omega
/-- blocks that are split further -/
structure Rf (n : Nat) (S S' : St) : Prop where
  le : S.ms.length ≤ S'.ms.length
  stay : ∀ s, s < n → S'.β s = S.β s ∨ (S.ms.length ≤ S'.β s ∧ S'.β s ∈ S'.pd)
  ref : ∀ s t, s < n → t < n → S'.β s = S'.β t → S.β s = S.β t
  pd : ∀ b ∈ S.pd, b ∈ S'.pd
theorem Rf.refl : Rf n S S := ⟨Nat.le_refl _, fun _ _ => .inl rfl, fun _ _ _ _ h => h, fun _ h => h⟩
theorem Rf.trans (a : Rf n S S1) (c : Rf n S1 S2) : Rf n S S2 := by
  refine ⟨Nat.le_trans a.le c.le, fun s hs => ?_, fun s t hs ht e => a.ref s t hs ht (c.ref s t hs ht e), fun b h => c.pd b (a.pd b h)⟩
  rcases c.stay s hs with e | ⟨e1, e2⟩
  · rw [e]
    rcases a.stay s hs with e' | ⟨e1, e2⟩
    · exact .inl e'
    · exact .inr ⟨e1, c.pd _ e2⟩
  · exact .inr ⟨Nat.le_trans a.le e1, e2⟩
theorem mv_rf (h : S.ok n) (hl : S.ms[b]? = some l) (sub : ∀ s ∈ P, s ∈ l) : Rf n S (S.mv P b) := by
  have lt : ∀ s ∈ P, s < n := fun s hs => ((h.mem b l hl s).mp (sub s hs)).1
  have inb : ∀ s ∈ P, S.β s = b := fun s hs => ((h.mem b l hl s).mp (sub s hs)).2
  refine ⟨by rw [mv_len]; omega, fun s hs => ?_, fun s t hs ht e => ?_, fun c hc => List.mem_append_left _ hc⟩
  · rw [mv_β h lt]
    split
    · exact .inr ⟨Nat.le_refl _, by simp [St.mv]⟩
    · exact .inl rfl
  · rw [mv_β h lt, mv_β h lt] at e
    have h1 := h.lt s hs
    have h2 := h.lt t ht
    by_cases a : s ∈ P <;> by_cases c : t ∈ P
    · rw [inb s a, inb t c]
    · rw [if_pos a, if_neg c] at e; omega
    · rw [if_neg a, if_pos c] at e; omega
    · rw [if_neg a, if_neg c] at e; exact e
def St.part (S : St) (X : List Nat) (b : Nat) : List Nat := X.filter fun x => decide (S.β x = b)
def St.spl (S : St) (p : List Nat) (b : Nat) : St := if 2 * p.length ≤ (S.ms.getD b []).length then S.mv p b else if p.length < (S.ms.getD b []).length then S.mv ((S.ms.getD b []).filter fun s => decide (s ∉ p)) b else S
structure Sp (n : Nat) (S0 S : St) (X dn : List Nat) : Prop where
  ok : S.ok n
  rf : Rf n S0 S
  far : ∀ s, s < n → S0.β s ∉ dn → S.β s = S0.β s
  ms : ∀ b, b < S0.ms.length → b ∉ dn → S.ms[b]? = S0.ms[b]?
  sep : ∀ s t, s < n → t < n → S.β s = S.β t → S0.β s ∈ dn → (s ∈ X ↔ t ∈ X)
  only : ∀ s t, s < n → t < n → S0.β s = S0.β t → (s ∈ X ↔ t ∈ X) → S.β s = S.β t
  cnt : S.ms.length + S0.pd.length = S0.ms.length + S.pd.length
theorem Sp.new (h : S0.ok n) : Sp n S0 S0 X [] := ⟨h, .refl, fun _ _ _ => rfl, fun _ _ _ => rfl, fun _ _ _ _ _ h => by simp at h, fun _ _ _ _ e _ => e, rfl⟩
/-- one block is split -/
theorem Sp.mv {dn : List Nat} (Z : Sp n S0 S X dn) (h0 : S0.ok n) (hb : b ∉ dn) (hl : S0.ms[b]? = some l) (nd : P.Nodup) (ne : P ≠ []) (sub : ∀ s ∈ P, s ∈ l) (pr : ∃ s ∈ l, s ∉ P)
    (hX : (∀ s ∈ l, s ∈ P ↔ s ∈ X) ∨ (∀ s ∈ l, s ∈ P ↔ s ∉ X)) : Sp n S0 (S.mv P b) X (b :: dn) := by
  have hb0 := (List.getElem?_eq_some_iff.mp hl).1
  have hl' : S.ms[b]? = some l := by rw [Z.ms b hb0 hb]; exact hl
  have lt : ∀ s ∈ P, s < n := fun s hs => ((Z.ok.mem b l hl' s).mp (sub s hs)).1
  have inb : ∀ s ∈ P, S0.β s = b := fun s hs => ((h0.mem b l hl s).mp (sub s hs)).2
  have inl_ : ∀ s, s < n → S0.β s = b → s ∈ l := fun s hs e => (h0.mem b l hl s).mpr ⟨hs, e⟩
  have big : ∀ s, s < n → S.β s < S.ms.length := Z.ok.lt
  refine ⟨mv_ok Z.ok hl' nd ne sub pr, Z.rf.trans (mv_rf Z.ok hl' sub), fun s hs hd => ?_, fun c hc hd => ?_, fun s t hs ht e hd => ?_, fun s t hs ht e hx => ?_, ?_⟩
  · simp only [List.mem_cons, not_or] at hd
    rw [mv_β Z.ok lt, if_neg fun hp => hd.1 (inb s hp)]
    exact Z.far s hs hd.2
  · simp only [List.mem_cons, not_or] at hd
    have hcs : c < S.ms.length := Nat.lt_of_lt_of_le hc Z.rf.le
    unfold St.mv
    simp only
    rw [List.getElem?_append_left (by simpa using hcs), List.getElem?_set_ne (fun z => hd.1 z.symm)]
    exact Z.ms c hc hd.2
  · rw [mv_β Z.ok lt, mv_β Z.ok lt] at e
    have h1 := big s hs
    have h2 := big t ht
    by_cases a : s ∈ P <;> by_cases c : t ∈ P
    · rcases hX with hX | hX
      · exact ⟨fun _ => (hX t (sub t c)).mp c, fun _ => (hX s (sub s a)).mp a⟩
      · exact ⟨fun z => absurd z ((hX s (sub s a)).mp a), fun z => absurd z ((hX t (sub t c)).mp c)⟩
    · rw [if_pos a, if_neg c] at e; omega
    · rw [if_neg a, if_pos c] at e; omega
    · rw [if_neg a, if_neg c] at e
      rcases List.mem_cons.mp hd with hd | hd
      · have e0 := Z.rf.ref s t hs ht e
        have ms := inl_ s hs hd
        have mt := inl_ t ht (by rw [← e0]; exact hd)
        rcases hX with hX | hX
        · exact ⟨fun z => absurd ((hX s ms).mpr z) a, fun z => absurd ((hX t mt).mpr z) c⟩
        · exact ⟨fun _ => Classical.byContradiction fun z => c ((hX t mt).mpr z), fun _ => Classical.byContradiction fun z => a ((hX s ms).mpr z)⟩
      · exact Z.sep s t hs ht e hd
  · rw [mv_β Z.ok lt, mv_β Z.ok lt]
    have e1 := Z.only s t hs ht e hx
    have pp : s ∈ P ↔ t ∈ P := by
      by_cases hb' : S0.β s = b
      · have ms := inl_ s hs hb'
        have mt := inl_ t ht (by rw [← e]; exact hb')
        rcases hX with hX | hX
        · rw [hX s ms, hX t mt]; exact hx
        · rw [hX s ms, hX t mt, hx]
      · exact ⟨fun z => absurd (inb s z) hb', fun z => absurd (by rw [e]; exact inb t z) hb'⟩
    by_cases a : s ∈ P
    · rw [if_pos a, if_pos (pp.mp a)]
    · rw [if_neg a, if_neg fun z => a (pp.mpr z)]; exact e1
  · rw [mv_len]
    have := Z.cnt
    simp [St.mv]
    omega
theorem Sp.spl {dn : List Nat} (Z : Sp n S0 S X dn) (h0 : S0.ok n) (hb : b ∉ dn) (hl : S0.ms[b]? = some l) (nX : X.Nodup) (ltX : ∀ x ∈ X, x < n) (hex : ∃ x ∈ X, S0.β x = b) : Sp n S0 (S.spl (S0.part X b) b) X (b :: dn) := by
  have hb0 := (List.getElem?_eq_some_iff.mp hl).1
  have hl' : S.ms[b]? = some l := by rw [Z.ms b hb0 hb]; exact hl
  have gl : S.ms.getD b [] = l := by rw [List.getD_eq_getElem?_getD, hl']; rfl
  have ndl := h0.nd l (List.mem_of_getElem? hl)
  have ndp : (S0.part X b).Nodup := nX.filter _
  have pm : ∀ s, s ∈ S0.part X b ↔ s ∈ X ∧ S0.β s = b := fun s => by unfold St.part; rw [List.mem_filter]; simp
  have sub : ∀ s ∈ S0.part X b, s ∈ l := fun s hs => (h0.mem b l hl s).mpr ⟨ltX s ((pm s).mp hs).1, ((pm s).mp hs).2⟩
  have iff : ∀ s ∈ l, s ∈ S0.part X b ↔ s ∈ X := fun s hs => by rw [pm]; exact ⟨fun z => z.1, fun z => ⟨z, ((h0.mem b l hl s).mp hs).2⟩⟩
  have nep : S0.part X b ≠ [] := by
    obtain ⟨x, a, c⟩ := hex
    exact List.ne_nil_of_mem ((pm x).mpr ⟨a, c⟩)
  have pos : 0 < (S0.part X b).length := List.length_pos_iff.mpr nep
  have proper : (S0.part X b).length < l.length → ∃ s ∈ l, s ∉ S0.part X b := by
    intro hlt
    apply Classical.byContradiction
    intro hn
    have := ndl.length_le_of_subset (l₂ := S0.part X b) fun s hs => Classical.byContradiction fun z => hn ⟨s, hs, z⟩
    omega
  unfold St.spl
  rw [gl]
  generalize S0.part X b = p at *
  split
  · rename_i h1
    exact Z.mv h0 hb hl ndp nep sub (proper (by omega)) (.inl iff)
  · split
    · rename_i h1 h2
      obtain ⟨s, a, c⟩ := proper h2
      obtain ⟨x, hx⟩ := List.exists_mem_of_ne_nil p nep
      refine Z.mv h0 hb hl (ndl.filter _) (List.ne_nil_of_mem (List.mem_filter.mpr ⟨a, by simpa using c⟩)) (fun s hs => (List.mem_filter.mp hs).1) ⟨x, sub x hx, fun z => by simpa [hx] using (List.mem_filter.mp z).2⟩ (.inr fun s hs => ?_)
      rw [List.mem_filter, ← iff s hs]
      simp [hs]
    · rename_i h1 h2
      have all : ∀ s ∈ l, s ∈ p := by
        intro s hs
        apply Classical.byContradiction
        intro hn
        have h3 : (s :: p).Nodup := List.nodup_cons.mpr ⟨hn, ndp⟩
        have := h3.length_le_of_subset (l₂ := l) fun x hx => by
          rcases List.mem_cons.mp hx with rfl | hx
          · exact hs
          · exact sub x hx
        simp at this
        omega
      refine ⟨Z.ok, Z.rf, fun s hs hd => Z.far s hs fun z => hd (by simp [z]), fun c hc hd => Z.ms c hc fun z => hd (by simp [z]), fun s t hs ht e hd => ?_, Z.only, Z.cnt⟩
      rcases List.mem_cons.mp hd with hd | hd
      · have e0 := Z.rf.ref s t hs ht e
        have ms := (h0.mem b l hl s).mpr ⟨hs, hd⟩
        have mt := (h0.mem b l hl t).mpr ⟨ht, by rw [← e0]; exact hd⟩
        exact ⟨fun _ => (iff t mt).mp (all t mt), fun _ => (iff s ms).mp (all s ms)⟩
      · exact Z.sep s t hs ht e hd
/-- all that were to be split -/
structure Spd (n : Nat) (S0 S : St) (X : List Nat) : Prop where
  ok : S.ok n
  rf : Rf n S0 S
  sep : ∀ s t, s < n → t < n → S.β s = S.β t → (s ∈ X ↔ t ∈ X)
  only : ∀ s t, s < n → t < n → S0.β s = S0.β t → (s ∈ X ↔ t ∈ X) → S.β s = S.β t
  cnt : S.ms.length + S0.pd.length = S0.ms.length + S.pd.length
theorem Sp.all {dn : List Nat} (Z : Sp n S0 S X dn) (h : ∀ x ∈ X, S0.β x ∈ dn) : Spd n S0 S X := by
  refine ⟨Z.ok, Z.rf, fun s t hs ht e => ?_, Z.only, Z.cnt⟩
  by_cases hd : S0.β s ∈ dn
  · exact Z.sep s t hs ht e hd
  · have e0 := Z.rf.ref s t hs ht e
    exact ⟨fun z => absurd (h s z) hd, fun z => absurd (h t z) (by rw [← e0]; exact hd)⟩
end
/-! the blocks by a machine -/
section
variable {n L : Nat} {R : List (List Int)} {A : List Bool}
/-- one of both is in a block that waits -/
def inP (S : St) (t : Int) : Prop := 0 ≤ t ∧ S.β t.toNat ∈ S.pd
def blI (S : St) (t : Int) : Int := if t < 0 then -1 else (S.β t.toNat : Int)
def Hop (R : List (List Int)) (S : St) (rem : List Nat) (T : List Nat) : Prop := ∀ s t : Nat, s < R.length → t < R.length → S.β s = S.β t → ∀ a, blI S (stp R s a) ≠ blI S (stp R t a) →
  (inP S (stp R s a) ∨ inP S (stp R t a)) ∨ (a ∈ rem ∧ ((0 ≤ stp R s a ∧ (stp R s a).toNat ∈ T) ∨ (0 ≤ stp R t a ∧ (stp R t a).toNat ∈ T)))
def HopT (S : St) (T : List Nat) : Prop := ∀ u v, u ∈ T → v ∈ T → S.β u ≠ S.β v → S.β u ∈ S.pd ∨ S.β v ∈ S.pd
variable {S S' : St} {rem T : List Nat}
theorem Rf.inP (r : Rf R.length S S') {t : Int} (ht : t < R.length) (h : inP S t) : inP S' t := by
  refine ⟨h.1, ?_⟩
  rcases r.stay t.toNat (by have := h.1; omega) with e | ⟨_, e⟩
  · rw [e]; exact r.pd _ h.2
  · exact e
theorem Rf.bl (r : Rf R.length S S') {s t : Int} (hs : -1 ≤ s ∧ s < R.length) (ht : -1 ≤ t ∧ t < R.length) (e : blI S s = blI S t) (ne : blI S' s ≠ blI S' t) : Le.inP S' s ∨ Le.inP S' t := by
  unfold blI at e ne
  by_cases a : s < 0
  · rw [if_pos a] at e ne
    by_cases c : t < 0
    · rw [if_pos c] at ne; exact absurd rfl ne
    · rw [if_neg c] at e; omega
  · rw [if_neg a] at e ne
    by_cases c : t < 0
    · rw [if_pos c] at e; omega
    · rw [if_neg c] at e ne
      rcases r.stay s.toNat (by omega) with e1 | ⟨_, e1⟩
      · rcases r.stay t.toNat (by omega) with e2 | ⟨_, e2⟩
        · rw [e1, e2] at ne; exact absurd e ne
        · exact .inr ⟨by omega, e2⟩
      · exact .inl ⟨by omega, e1⟩
theorem Hop.rf (wf : Wf L R A) (h : Hop R S rem T) (r : Rf R.length S S') : Hop R S' rem T := by
  intro s t hs ht e a ne
  have e0 := r.ref s t hs ht e
  by_cases q : blI S (stp R s a) = blI S (stp R t a)
  · exact .inl (r.bl wf.stp_in wf.stp_in q ne)
  · rcases h s t hs ht e0 a q with (h | h) | h
    · exact .inl (.inl (r.inP wf.stp_in.2 h))
    · exact .inl (.inr (r.inP wf.stp_in.2 h))
    · exact .inr h
theorem HopT.rf (h : HopT S T) (hT : ∀ u ∈ T, u < n) (r : Rf n S S') : HopT S' T := by
  intro u v hu hv ne
  have stay : ∀ w, w ∈ T → S.β w ∈ S.pd → S'.β w ∈ S'.pd := by
    intro w hw hp
    rcases r.stay w (hT w hw) with e | ⟨_, e⟩
    · rw [e]; exact r.pd _ hp
    · exact e
  by_cases q : S.β u = S.β v
  · rcases r.stay u (hT u hu) with e1 | ⟨_, e1⟩
    · rcases r.stay v (hT v hv) with e2 | ⟨_, e2⟩
      · rw [e1, e2] at ne; exact absurd q ne
      · exact .inr e2
    · exact .inl e1
  · rcases h u v hu hv q with h | h
    · exact .inl (stay u hu h)
    · exact .inr (stay v hv h)
/-- a letter is done -/
theorem Hop.letter (wf : Wf L R A) {a : Nat} {X : List Nat} (h : Hop R S (a :: rem) T) (hT : HopT S T) (lt : ∀ u ∈ T, u < R.length) (hX : ∀ s, s < R.length → (s ∈ X ↔ 0 ≤ stp R s a ∧ (stp R s a).toNat ∈ T)) (Z : Spd R.length S S' X) : Hop R S' rem T := by
  have h' := h.rf wf Z.rf
  have hT' := hT.rf lt Z.rf
  intro s t hs ht e c ne
  rcases h' s t hs ht e c ne with h1 | ⟨h1, h2⟩
  · exact .inl h1
  · rcases List.mem_cons.mp h1 with h1 | h1
    · subst h1
      have := Z.sep s t hs ht e
      rw [hX s hs, hX t ht] at this
      have both : (0 ≤ stp R s c ∧ (stp R s c).toNat ∈ T) ∧ (0 ≤ stp R t c ∧ (stp R t c).toNat ∈ T) := by
        rcases h2 with h2 | h2
        · exact ⟨h2, this.mp h2⟩
        · exact ⟨this.mpr h2, h2⟩
      have nb : S'.β (stp R s c).toNat ≠ S'.β (stp R t c).toNat := by
        intro z
        apply ne
        unfold blI
        rw [if_neg (by have := both.1.1; omega), if_neg (by have := both.2.1; omega), z]
      rcases hT' _ _ both.1.2 both.2.2 nb with q | q
      · exact .inl (.inl ⟨both.1.1, q⟩)
      · exact .inl (.inr ⟨both.2.1, q⟩)
    · exact .inr ⟨h1, h2⟩
/-- nothing waits any more -/
theorem Hop.end (wf : Wf L R A) (h : Hop R S [] []) (hp : S.pd = []) (acc : ∀ s t : Nat, s < R.length → t < R.length → S.β s = S.β t → end_ A s = end_ A t) :
    ∀ (w : List Nat) (s t : Nat), s < R.length → t < R.length → S.β s = S.β t → lng R A s w = lng R A t w
  | [], s, t, hs, ht, e => acc s t hs ht e
  | a :: w, s, t, hs, ht, e => by
    rw [lng_cons, lng_cons]
    have q : blI S (stp R s a) = blI S (stp R t a) := by
      apply Classical.byContradiction
      intro ne
      rcases h s t hs ht e a ne with (⟨_, h⟩ | ⟨_, h⟩) | ⟨h, _⟩
      · rw [hp] at h; simp at h
      · rw [hp] at h; simp at h
      · simp at h
    have b1 := wf.stp_in (s := s) (a := a)
    have b2 := wf.stp_in (s := t) (a := a)
    unfold blI at q
    by_cases c1 : stp R s a < 0
    · by_cases c2 : stp R t a < 0
      · rw [lng_neg c1, lng_neg c2]
      · rw [if_pos c1, if_neg c2] at q; omega
    · by_cases c2 : stp R t a < 0
      · rw [if_neg c1, if_pos c2] at q; omega
      · rw [if_neg c1, if_neg c2] at q
        have := Hop.end wf h hp acc w (stp R s a).toNat (stp R t a).toNat (by omega) (by omega) (by omega)
        rwa [Int.toNat_of_nonneg (by omega), Int.toNat_of_nonneg (by omega)] at this
end
end Le
/-! loops over what is walked, however it is walked -/
section
variable {s : Slots} {μ : Mem} {D : Dn} {g : Tgt} {b : FS} {j : IterU}
theorem for_it (us : List U) (I : Nat → Slots → Mem → Prop) (hn : us.length < 1000000) (h0 : I 0 s μ) (hit : ∀ i s μ, I i s μ → Dg.itemAt j i μ = some us[i]?)
    (step : ∀ i s μ (h : i < us.length), I i s μ → ∃ s1, setT g us[i] s = some s1 ∧ Dg.wpS (b s1 μ) ⟨I (i + 1), D.rt, D.nx, I (i + 1), D.ex⟩) (fin : ∀ s μ, I us.length s μ → D.nx s μ) : Dg.wpS (sForGo g b fuelF j 0 s μ) D := by
  refine for_go (fun i s μ => i ≤ us.length ∧ I i s μ) us.length hn ⟨by omega, h0⟩ (fun i s μ h => h.1) ?_
  rintro i s μ ⟨hi, h⟩
  rw [hit i s μ h]
  by_cases e : i < us.length
  · right
    obtain ⟨s1, e1, e2⟩ := step i s μ e h
    exact ⟨us[i], s1, by rw [List.getElem?_eq_getElem e], e1, wpS.mono e2 (fun _ _ q => ⟨by omega, q⟩) (fun _ _ q => q) (fun _ _ q => q) (fun _ _ q => ⟨by omega, q⟩) fun _ _ _ q => q⟩
  · left
    have : i = us.length := by omega
    subst this
    exact ⟨by rw [List.getElem?_eq_none (by omega)], fin s μ h⟩
end
section
variable {own : List Nat} {g : Tgt} {t : FT} {e kk : FE} {s : Slots} {d : Nat} {μ : Mem} {Q : U → Mem → Prop} {E : Str → Mem → Prop} {j : IterU}
theorem lc_it (us : List U) (I : Nat → Mem → Prop) (hn : us.length < 1000000) (h0 : I 0 μ) (hit : ∀ i μ, I i μ → Dg.itemAt j i μ = some us[i]?)
    (step : ∀ i μ (h : i < us.length), I i μ → ∃ s1, setT g us[i] (wipeU s own) = some s1 ∧
      wpE (t s1 μ) (fun b μ3 => if b = true then wpE (e s1 μ3) (fun v μ4 => ∃ acc, μ4[d]? = some (.lst acc) ∧ acc.length < lim ∧ I (i + 1) (μ4.set d (.lst (acc ++ [v])))) (fun _ _ => False) else I (i + 1) μ3) (fun _ _ => False))
    (fin : ∀ μ, I us.length μ → Q (.ref d) μ) : wpE (lcGo j own g t e s d fuelF 0 μ) Q E := by
  refine lc_go (fun i μ => i ≤ us.length ∧ I i μ) us.length hn ⟨by omega, h0⟩ (fun i μ h => h.1) ?_
  rintro i μ ⟨hi, h⟩
  rw [hit i μ h]
  by_cases h1 : i < us.length
  · right
    obtain ⟨s1, e1, e2⟩ := step i μ h1 h
    refine ⟨us[i], s1, by rw [List.getElem?_eq_getElem h1], e1, wpE.mono e2 fun b μ3 q => ?_⟩
    cases b with
    | false => exact ⟨by omega, q⟩
    | true => exact wpE.mono q fun v μ4 ⟨acc, a1, a2, a3⟩ => ⟨acc, a1, a2, by omega, a3⟩
  · left
    have : i = us.length := by omega
    subst this
    exact ⟨by rw [List.getElem?_eq_none (by omega)], fin μ h⟩
/-- a comprehension whose test and element change nothing -/
theorem lc_fm {α : Type} (xs : List α) (f : α → U) (p : α → Bool) (v : α → U) (hn : xs.length < 1000000) (hit : ∀ i (acc : List U), Dg.itemAt j i (μ ++ [.lst acc]) = some (xs.map f)[i]?)
    (step : ∀ x ∈ xs, ∀ acc : List U, ∃ s1, setT g (f x) (wipeU s own) = some s1 ∧ wpE (t s1 (μ ++ [.lst acc])) (fun b μ3 => b = p x ∧ μ3 = μ ++ [.lst acc] ∧ (b = true → wpE (e s1 (μ ++ [.lst acc])) (fun w μ4 => w = v x ∧ μ4 = μ ++ [.lst acc]) (fun _ _ => False))) (fun _ _ => False))
    (q : Q (.ref μ.length) (μ ++ [.lst ((xs.filter p).map v)])) : wpE (lcGo j own g t e s μ.length fuelF 0 (μ ++ [.lst []])) Q E := by
  refine lc_it (xs.map f) (fun i μ' => μ' = μ ++ [.lst (((xs.take i).filter p).map v)]) (by simpa using hn) (by simp) (fun i μ' h => by rw [h]; exact hit i _) ?_ ?_
  · rintro i μ' hi rfl
    have hi' : i < xs.length := by simpa using hi
    obtain ⟨s1, e1, w⟩ := step xs[i] (List.getElem_mem hi') (((xs.take i).filter p).map v)
    refine ⟨s1, by rw [List.getElem_map]; exact e1, wpE.mono w fun b μ3 ⟨h1, h2, h3⟩ => ?_⟩
    subst h2
    have ht : xs.take (i + 1) = xs.take i ++ [xs[i]] := by rw [List.take_append_getElem]
    cases b with
    | false =>
      rw [if_neg (by decide), ht, List.filter_append]
      simp [← h1]
    | true =>
      rw [if_pos rfl]
      refine wpE.mono (h3 rfl) fun w μ4 ⟨a, b⟩ => ?_
      subst a b
      refine ⟨_, get_snoc, ?_, ?_⟩
      · rw [List.length_map]
        have := List.length_filter_le p (xs.take i)
        rw [List.length_take] at this
        simp only [lim]; omega
      · rw [List.set_append_right _ _ (Nat.le_refl _), Nat.sub_self, ht, List.filter_append]
        simp [← h1]
  · rintro μ' rfl
    rw [List.length_map, List.take_length]
    exact q
/-- a dict comprehension -/
theorem dk_it (us : List U) (hn : us.length < 1000000) (I : Nat → Mem → Prop) (h0 : I 0 μ) (hit : ∀ i μ, I i μ → Dg.itemAt j i μ = some us[i]?)
    (step : ∀ i μ (h : i < us.length), I i μ → ∃ s1, setT g us[i] (wipeU s own) = some s1 ∧ t s1 μ = .ok true μ ∧ wpE (kk s1 μ) (fun kv μ4 => wpE (e s1 μ4) (fun v μ5 => ∃ acc ky, μ5[d]? = some (.dct acc) ∧ keyU kv = some ky ∧ acc.length < lim ∧ I (i + 1) (μ5.set d (.dct (putU acc ky v)))) (fun _ _ => False)) (fun _ _ => False))
    (fin : ∀ μ, I us.length μ → Q (.ref d) μ) : wpE (dkGo j own g t kk e s d fuelF 0 μ) Q E := by
  have main : ∀ (f i : Nat) (μ : Mem), us.length < f + i → i ≤ us.length → I i μ → wpE (dkGo j own g t kk e s d f i μ) Q E := by
    intro f
    induction f with
    | zero => intro i μ hf hi h; omega
    | succ f ih =>
      intro i μ hf hi h
      unfold dkGo
      rw [hit i μ h]
      by_cases e0 : i < us.length
      · obtain ⟨s1, e1, e2, w⟩ := step i μ e0 h
        rw [List.getElem?_eq_getElem e0]
        simp only [e1, e2]
        obtain ⟨kv, μ4, ek, w⟩ := w.get
        simp only [ek]
        obtain ⟨v, μ5, ev, w⟩ := w.get
        simp only [ev]
        obtain ⟨acc, ky, a1, a2, a3, a4⟩ := w
        simp only [a1, a2, a3, if_true]
        exact ih (i + 1) _ (by omega) (by omega) a4
      · have : i = us.length := by omega
        subst this
        rw [List.getElem?_eq_none (by omega)]
        exact fin μ h
  exact main fuelF 0 μ (by simp only [fuelF]; omega) (Nat.zero_le _) h0
theorem w_dcK {it : FI} : wpE (fDcK it own g t kk e s μ) Q E = wpE (it s μ) (fun j μ1 => wpE (dkGo j own g t kk e s μ1.length fuelF 0 (μ1 ++ [.dct []])) Q E) E := w_bind
end
/-! dicts of ints -/
theorem val_put {acc : List (Key × U)} {k k' : Key} {u : U} : valU (putU acc k u) k' = if k = k' then some u else valU acc k' := by
  unfold putU
  by_cases h : (acc.any fun kv => decide (kv.1 = k)) = true
  · rw [if_pos h]
    induction acc with
    | nil => simp at h
    | cons p r ih =>
      unfold valU at ih ⊢
      rw [List.map_cons, List.find?_cons, List.find?_cons]
      by_cases hp : p.1 = k
      · by_cases hk : k = k'
        · subst hk; simp [hp]
        · simp only [hp, hk, if_true, decide_false]
          by_cases hr : (r.any fun kv => decide (kv.1 = k)) = true
          · rw [ih hr]; simp [hk]
          · have : (r.map fun kv => if kv.1 = k then (kv.1, u) else kv) = r := by
              refine (List.map_congr_left fun x hx => ?_).trans (List.map_id _)
              have : x.1 ≠ k := fun e => hr (List.any_eq_true.mpr ⟨x, hx, by simp [e]⟩)
              simp [this]
            rw [this]; simp
      · have hr : (r.any fun kv => decide (kv.1 = k)) = true := by simpa [hp] using h
        simp only [hp, if_false]
        by_cases hk' : p.1 = k'
        · have : ¬ k = k' := fun e => hp (by rw [hk', e])
          simp [hk', this]
        · simp only [hk', decide_false]
          exact ih hr
  · rw [if_neg h]
    unfold valU
    rw [List.find?_append]
    by_cases hk : k = k'
    · subst hk
      have : acc.find? (fun kv => decide (kv.1 = k)) = none := by
        rw [List.find?_eq_none]
        intro x hx e
        exact h (List.any_eq_true.mpr ⟨x, hx, e⟩)
      rw [this]
      simp
    · simp [hk]
theorem any_val {acc : List (Key × U)} {k : Key} : (acc.any fun kv => decide (kv.1 = k)) = (valU acc k).isSome := by
  unfold valU
  rw [Option.isSome_map]
  induction acc with
  | nil => rfl
  | cons p r ih =>
    rw [List.any_cons, List.find?_cons]
    by_cases h : p.1 = k
    · simp [h]
    · simp [h, ih]
theorem put_new {acc : List (Key × U)} {k : Key} {u : U} (h : valU acc k = none) : putU acc k u = acc ++ [(k, u)] := by
  unfold putU
  rw [any_val, h]
  rfl
def kN (ks : List Int) : List (Key × U) := ks.map fun k => (.inl k, .bl true)
def iN (ks : List Nat) : List Int := ks.map fun k => ((k : Nat) : Int)
theorem iN_mem {ks : List Nat} {k : Nat} : (k : Int) ∈ iN ks ↔ k ∈ ks := by
  unfold iN
  rw [List.mem_map]
  exact ⟨fun ⟨x, a, b⟩ => by have : x = k := by omega
                             subst this; exact a, fun h => ⟨k, h, rfl⟩⟩
theorem val_kN {k : Int} : ∀ {ks : List Int}, valU (kN ks) (.inl k) = if k ∈ ks then some (.bl true) else none
  | [] => rfl
  | x :: ks => by
    have ih := val_kN (k := k) (ks := ks)
    unfold kN valU at *
    rw [List.map_cons, List.find?_cons]
    by_cases h : x = k
    · subst h; simp
    · have h' : ¬ (Sum.inl x : Key) = Sum.inl k := fun e => h (by injection e)
      simp only [h', decide_false]
      rw [ih]
      have : (k ∈ x :: ks) = (k ∈ ks) := by simp [Ne.symm h]
      simp only [this]
theorem put_kN {k : Int} {ks : List Int} : putU (kN ks) (.inl k) (.bl true) = kN (if k ∈ ks then ks else ks ++ [k]) := by
  by_cases h : k ∈ ks
  · rw [if_pos h]
    unfold putU
    rw [any_val, val_kN, if_pos h]
    simp only [Option.isSome_some, if_true]
    unfold kN
    rw [List.map_map]
    refine List.map_congr_left fun x _ => ?_
    simp only [Function.comp]
    split <;> simp_all
  · rw [if_neg h, put_new (by rw [val_kN, if_neg h])]
    unfold kN
    simp
theorem drop_kN {k : Int} {ks : List Int} : dropU (kN ks) (.inl k) = kN (ks.filter fun x => decide (x ≠ k)) := by
  unfold dropU kN
  rw [List.filter_map]
  congr 1
  refine List.filter_congr fun x _ => ?_
  simp
theorem kN_len {ks : List Int} : (kN ks).length = ks.length := by simp [kN]
theorem kInts_kN : ∀ {ks : List Int}, kInts (kN ks) = some ks
  | [] => rfl
  | k :: ks => by
    have ih := kInts_kN (ks := ks)
    unfold kN at *
    rw [List.map_cons]
    simp only [kInts, ih, Option.map_some]
theorem keys_kN {ks : List Int} : keysU (kN ks) = ks.map U.int := by
  unfold keysU kN
  rw [List.map_map]
  rfl
theorem ksOk_kN {ks : List Int} : ksOk (kN ks) = true := by
  unfold ksOk kN
  rw [List.all_map, List.all_eq_true]
  intro x _
  rfl
section
variable {s : Slots} {μ : Mem} {Q : U → Mem → Prop} {E : Str → Mem → Prop} {D : Dn}
theorem dct_D {r : Nat} {kus : List (Key × U)} (h : μ[r]? = some (.dct kus)) : dctU μ (.ref r) = some kus := by unfold dctU; simp only [h]
theorem in_D {r : Nat} {kus : List (Key × U)} {i : Int} (h : μ[r]? = some (.dct kus)) : inU (.int i) (.ref r) μ = some (valU kus (.inl i)).isSome := by
  unfold inU
  simp only [dct_D h, keyU]
theorem w_inD {r : Nat} {kus : List (Key × U)} {i : Int} (h : μ[r]? = some (.dct kus)) : wpE (uIn (.int i) (.ref r) μ) Q E = Q (.bl (valU kus (.inl i)).isSome) μ := by
  unfold uIn; rw [in_D h]; rfl
theorem w_ninD {r : Nat} {kus : List (Key × U)} {i : Int} (h : μ[r]? = some (.dct kus)) : wpE (uNin (.int i) (.ref r) μ) Q E = Q (.bl (!(valU kus (.inl i)).isSome)) μ := by
  unfold uNin; rw [in_D h]; rfl
theorem w_ixD {r : Nat} {kus : List (Key × U)} {i : Int} (h : μ[r]? = some (.dct kus)) : wpE (ixU (.ref r) (.int i) μ) Q E = ∃ u, valU kus (.inl i) = some u ∧ Q u μ := by
  unfold ixU
  simp only [dct_D h, keyU]
  cases valU kus (.inl i) <;> simp [opt, wpE]
theorem seq_ndct {u : U} {us : List U} (h : seqU μ u = some us) : dctU μ u = none := by
  cases u with
  | ref i =>
    unfold seqU at h
    unfold dctU
    simp only at h ⊢
    cases e : μ[i]? with
    | none => rfl
    | some c => rw [e] at h; cases c <;> first | rfl | cases h
  | _ => rfl
theorem w_ixS {u : U} {us : List U} {i : Int} (h : seqU μ u = some us) : wpE (ixU u (.int i) μ) Q E = ∃ a, atI us i = some a ∧ Q a μ := by
  unfold ixU
  rw [seq_ndct h]
  have key : ∀ {o : Option U}, wpE (opt o μ) Q E = ∃ a, o = some a ∧ Q a μ := fun {o} => by cases o <;> simp [opt, wpE]
  cases u with
  | tup us' => simp only [h]; exact key
  | ref i => simp only [h]; exact key
  | frl us' => simp only [h]; exact key
  | _ => cases h
theorem w_lenS' {u : U} {us : List U} (h : seqU μ u = some us) : wpE (bLen [u] μ) Q E = Q (.int us.length) μ := by
  cases u with
  | tup us' => cases h; exact w_lenT
  | frl us' => cases h; exact w_lenF
  | ref i =>
    unfold seqU at h
    simp only at h
    cases e : μ[i]? with
    | none => rw [e] at h; cases h
    | some c =>
      rw [e] at h
      cases c with
      | lst us' => cases h; exact w_lenL e
      | _ => cases h
  | _ => cases h
theorem w_lenD {r : Nat} {kus : List (Key × U)} (h : μ[r]? = some (.dct kus)) : wpE (bLen [.ref r] μ) Q E = Q (.int kus.length) μ := by
  have : bLen [.ref r] μ = .ok (.int kus.length) μ := by
    unfold bLen lenU
    simp only [h]
  rw [this]; rfl
/-- what is walked is a list or a tuple -/
theorem w_iseqS {a : FE} {Q : IterU → Mem → Prop} (h : wpE (a s μ) (fun u μ1 => ∃ us, seqU μ1 u = some us ∧ ∀ j, (∀ μ', seqU μ' u = some us → ∀ i, Dg.itemAt j i μ' = some us[i]?) → Q j μ1) E) : wpE (iSeq a s μ) Q E := by
  unfold iSeq
  rw [w_bind]
  refine wpE.mono h fun u μ1 ⟨us, hu, q⟩ => ?_
  cases u with
  | tup us' => cases hu; exact q _ fun μ' _ i => item_seq
  | frl us' => cases hu; exact q _ fun μ' _ i => item_seq
  | ref r =>
    have e : μ1[r]? = some (.lst us) := by
      unfold seqU at hu
      simp only at hu
      cases e : μ1[r]? with
      | none => rw [e] at hu; cases hu
      | some c =>
        rw [e] at hu
        cases c with
        | lst us' => cases hu; rfl
        | _ => cases hu
    simp only [listAt_L e]
    refine q _ fun μ' h' i => ?_
    have e' : μ'[r]? = some (.lst us) := by
      unfold seqU at h'
      simp only at h'
      cases e : μ'[r]? with
      | none => rw [e] at h'; cases h'
      | some c =>
        rw [e] at h'
        cases c with
        | lst us' => cases h'; rfl
        | _ => cases h'
    exact item_live e'
  | _ => cases hu
theorem seq_fr {μ' : Mem} {u : U} {us : List U} (h : seqU μ u = some us) (f : Fr μ μ') : seqU μ' u = some us := by
  cases u with
  | ref r =>
    unfold seqU at h ⊢
    simp only at h ⊢
    cases e : μ[r]? with
    | none => rw [e] at h; cases h
    | some c =>
      rw [e] at h
      rw [f.at_ _ _ e]
      exact h
  | _ => exact h
theorem seq_Ls {r : Nat} {us : List U} (h : μ[r]? = some (.lst us)) : seqU μ (.ref r) = some us := by unfold seqU; simp only [h]
/-! setdefault, del, min, list -/
theorem w_setd {md mk mz : FE} : wpE (fSetd md mk mz s μ) Q E = wpE (md s μ) (fun x μ1 => (∃ k0, dctU μ1 x = some k0) ∧ wpE (mk s μ1) (fun y μ2 => wpE (mz s μ2) (fun z μ3 => ∃ r ky kus, x = .ref r ∧ keyU y = some ky ∧ μ3[r]? = some (.dct kus) ∧ kus.length < lim ∧ (match valU kus ky with
    | some u => Q u μ3
    | none => Q z (μ3.set r (.dct (putU kus ky z))))) E) E) E := by
  unfold fSetd; rw [w_bind]; congr 1; funext x μ1
  cases hd : dctU μ1 x with
  | none => simp [wpE]
  | some k0 =>
    simp only [Option.some.injEq, exists_eq', true_and]
    rw [w_bind]; congr 1; funext y μ2; rw [w_bind]; congr 1; funext z μ3
    cases x with
    | ref r =>
      cases keyU y with
      | none => simp [wpE]
      | some ky =>
        cases h : μ3[r]? with
        | none => simp [wpE, h]
        | some c =>
          cases c with
          | dct kus =>
            simp only [h]
            by_cases hl : kus.length < lim
            · simp only [hl, if_true]
              cases hv : valU kus ky with
              | none => simp [wpE, hl, hv, h]
              | some u => simp [wpE, hl, hv, h]
            · simp [hl, wpE, h]
          | _ => simp [wpE, h]
    | _ => cases hd
theorem s_delK {mo mi : FE} : Dg.wpS (sDelK mo mi s μ) D = wpE (mo s μ) (fun u μ1 => wpE (mi s μ1) (fun w μ2 => ∃ r ky kus, u = .ref r ∧ keyU w = some ky ∧ μ2[r]? = some (.dct kus) ∧ (valU kus ky).isSome = true ∧ D.nx s (μ2.set r (.dct (dropU kus ky)))) (fun c μ => D.ex c s μ)) (fun c μ => D.ex c s μ) := by
  unfold sDelK; rw [w_ofR]; congr 1; funext u μ1; rw [w_ofR]; congr 1; funext w μ2
  cases u with
  | ref r =>
    cases keyU w with
    | none => simp [Dg.wpS]
    | some ky =>
      cases h : μ2[r]? with
      | none => simp [Dg.wpS, h]
      | some c =>
        cases c with
        | dct kus =>
          simp only [h]
          by_cases hv : (valU kus ky).isSome = true
          · simp only [hv, if_true]; simp [Dg.wpS, h, hv]
          · simp only [hv, if_false]; simp [Dg.wpS, h, hv]
        | _ => simp [Dg.wpS, h]
  | _ => simp [Dg.wpS]
theorem w_minK {r : Nat} {m : Int} {is : List Int} (h : μ[r]? = some (.dct (kN (m :: is)))) : wpE (bMinK [.ref r] μ) Q E = Q (.int (minI m is)) μ := by
  unfold bMinK
  simp only [h, kInts_kN]
  rfl
theorem w_listD {r : Nat} {ks : List Int} (h : μ[r]? = some (.dct (kN ks))) : wpE (bListD [.ref r] μ) Q E = Q (.ref μ.length) (μ ++ [.lst (ks.map U.int)]) := by
  unfold bListD
  simp only [h, ksOk_kN, if_true, keys_kN]
  rfl
end
section
variable {s : Slots} {μ : Mem} {Q : U → Mem → Prop} {E : Str → Mem → Prop}
theorem w_pairs0 {Q : List (Key × U) → Mem → Prop} : wpE (fPairs [] s μ) Q E = Q [] μ := propext ⟨fun h => h, fun h => h⟩
theorem w_pairs {k v : FE} {r : List (FE × FE)} {Q : List (Key × U) → Mem → Prop} : wpE (fPairs ((k, v) :: r) s μ) Q E = wpE (k s μ) (fun ku μ1 => wpE (v s μ1) (fun u μ2 => ∃ key, keyU ku = some key ∧ wpE (fPairs r s μ2) (fun kus μ3 => Q ((key, u) :: kus) μ3) E) E) E := by
  show wpE ((k s μ).bind _) Q E = _
  rw [w_bind]; congr 1; funext ku μ1; rw [w_bind]; congr 1; funext u μ2
  cases keyU ku with
  | none => simp [wpE]
  | some key => simp only [Option.some.injEq, exists_eq_left']; rw [w_bind]; rfl
theorem w_disp {ms : List (FE × FE)} : wpE (fDisp ms s μ) Q E = wpE (fPairs ms s (μ ++ [.dct []])) (fun kus μ1 => μ1[μ.length]? = some (.dct []) ∧ kus.length ≤ 15 ∧ Q (.ref μ.length) (μ1.set μ.length (.dct (mergeU [] kus)))) E := by
  unfold fDisp; rw [w_bind]; congr 1; funext kus μ1
  cases h : μ1[μ.length]? with
  | none => simp [wpE]
  | some c =>
    cases c with
    | dct k0 =>
      cases k0 with
      | nil =>
        simp only []
        by_cases hl : kus.length ≤ 15
        · simp [hl, wpE]
        · simp [hl, wpE]
      | cons _ _ => simp [wpE]
    | _ => simp [wpE]
end
/-- {x: True for x in xs} -/
theorem w_dset {it : FI} {k : Nat} {s : Slots} {μ : Mem} {Q : U → Mem → Prop} {E : Str → Mem → Prop} (h : wpE (it s μ) (fun j μ1 => ∃ xs : List Int, xs.Nodup ∧ xs.length < 1000000 ∧ k < s.length ∧ (∀ i acc, Dg.itemAt j i (μ1 ++ [.dct acc]) = some (xs.map U.int)[i]?) ∧ Q (.ref μ1.length) (μ1 ++ [.dct (kN xs)])) E) :
    wpE (fDcK it [k] (.one k) tAll (fVar k) (fC (.bl true)) s μ) Q E := by
  rw [w_dcK]
  refine wpE.mono h fun j μ1 ⟨xs, nd, hn, hk, hit, q⟩ => ?_
  refine dk_it (xs.map U.int) (by simpa using hn) (fun i μ' => μ' = μ1 ++ [.dct (kN (xs.take i))]) (by simp [kN]) (fun i μ' e => by rw [e]; exact hit i _) ?_ ?_
  · rintro i μ' hi rfl
    have hi' : i < xs.length := by simpa using hi
    refine ⟨_, rfl, rfl, ?_⟩
    have e : ((wipeU s [k]).set k (some (xs.map U.int)[i]))[k]? = some (some (.int xs[i])) := by
      rw [List.getElem?_set_self (by simpa [Dg.wipeU] using hk), List.getElem_map]
    have e2 : fVar k ((wipeU s [k]).set k (some (xs.map U.int)[i])) (μ1 ++ [Cell.dct (kN (xs.take i))]) = .ok (.int xs[i]) (μ1 ++ [Cell.dct (kN (xs.take i))]) := by
      unfold fVar; rw [e]
    show wpE (fVar k ((wipeU s [k]).set k (some (xs.map U.int)[i])) (μ1 ++ [Cell.dct (kN (xs.take i))])) _ _
    rw [e2]
    refine ⟨_, _, get_snoc, rfl, by rw [kN_len, List.length_take]; simp only [lim]; omega, ?_⟩
    have hni : xs[i] ∉ xs.take i := by
      intro hm
      obtain ⟨j, hj, ej⟩ := List.getElem_of_mem hm
      rw [List.length_take] at hj
      rw [List.getElem_take] at ej
      have := Dg.nodup_inj nd (i := j) (j := i) (by omega) (by omega) ej
      omega
    rw [List.set_append_right _ _ (Nat.le_refl _), Nat.sub_self, put_kN, if_neg hni, List.take_append_getElem]
    rfl
  · rintro μ' rfl
    rw [List.length_map, List.take_length]
    exact q
/-- [new for _ in us] -/
theorem lc_fresh {j : IterU} {k : Nat} {e : FE} {c0 : Cell} {s : Slots} {μ : Mem} {Q : U → Mem → Prop} {E : Str → Mem → Prop} (us : List U) (hn : us.length < 1000000) (he : ∀ s μ, e s μ = .ok (.ref μ.length) (μ ++ [c0])) (hit : ∀ μ', Fr μ μ' → ∀ i, Dg.itemAt j i μ' = some us[i]?)
    (q : ∀ μ', Fr μ μ' → μ'.length = μ.length + 1 + us.length → μ'[μ.length]? = some (.lst ((List.range us.length).map fun t => U.ref (μ.length + 1 + t))) → (∀ t, t < us.length → μ'[μ.length + 1 + t]? = some c0) → Q (.ref μ.length) μ') :
    wpE (lcGo j [k] (.one k) tAll e s μ.length fuelF 0 (μ ++ [.lst []])) Q E := by
  refine lc_it us (fun i μ' => Fr μ μ' ∧ μ'.length = μ.length + 1 + i ∧ μ'[μ.length]? = some (.lst ((List.range i).map fun t => U.ref (μ.length + 1 + t))) ∧ ∀ t, t < i → μ'[μ.length + 1 + t]? = some c0) hn ⟨Fr.refl.snoc, by simp, by simp, fun t h => by omega⟩ (fun i μ' h => hit μ' h.1 i) ?_ ?_
  · rintro i μ' hi ⟨f, hl, c, z⟩
    refine ⟨_, rfl, ?_⟩
    show wpE (e _ μ') _ _
    rw [he]
    refine ⟨_, get_snoc_lt c, by simp only [List.length_map, List.length_range, lim]; omega, (f.snoc).put (Nat.le_refl _), by simp; omega, ?_, fun t ht => ?_⟩
    · rw [get_set (get_snoc_lt c), List.range_succ, List.map_append, hl]
      rfl
    · by_cases h : t < i
      · exact get_set_ne (get_snoc_lt (z t h)) (by omega)
      · have : t = i := by omega
        subst this
        refine get_set_ne ?_ (by omega)
        rw [← hl]
        exact get_snoc
  · rintro μ' ⟨f, hl, c, z⟩
    exact q μ' f hl c z
theorem e_nil (s : Slots) (μ : Mem) : fLst aNil s μ = .ok (.ref μ.length) (μ ++ [.lst []]) := rfl
theorem e_d0 (s : Slots) (μ : Mem) : fD0 s μ = .ok (.ref μ.length) (μ ++ [.dct []]) := rfl
/-- what enumerate gives, of a list or a tuple -/
theorem w_enumB {a : FE} {s : Slots} {μ : Mem} {u : U} {us : List U} {Q : IterU → Mem → Prop} {E : Str → Mem → Prop} (ha : a s μ = .ok u μ) (hu : seqU μ u = some us) (hf : ∀ xs, u ≠ .frl xs) (q : ∀ j, (∀ μ', seqU μ' u = some us → ∀ i, Dg.itemAt j i μ' = some (us.mapIdx fun i w => U.tup [.int (i : Nat), w])[i]?) → Q j μ) : wpE (iEnumB a s μ) Q E := by
  cases u with
  | tup us' =>
    cases hu
    unfold iEnumB
    rw [ha]
    simp only
    rw [w_enumT ha]
    refine q _ fun μ' _ i => ?_
    rw [item_seq]
    unfold enumL
    rw [List.getElem?_mapIdx]
    simp
    cases us[i]? <;> rfl
  | ref r =>
    have cell : ∀ {μ' : Mem}, seqU μ' (.ref r) = some us → μ'[r]? = some (.lst us) := fun {μ'} h => by
      unfold seqU at h
      simp only at h
      cases e : μ'[r]? with
      | none => rw [e] at h; cases h
      | some c =>
        rw [e] at h
        cases c with
        | lst us' => cases h; rfl
        | _ => cases h
    unfold iEnumB
    rw [ha]
    simp only
    rw [w_enum, ha]
    exact ⟨r, rfl, us, listAt_L (cell hu), q _ fun μ' h i => by rw [item_enum (cell h), List.getElem?_mapIdx]⟩
  | frl us' => exact absurd rfl (hf us')
  | _ => cases hu
/-- [a new cell for x in us] -/
theorem lc_new {j : IterU} {own : List Nat} {g : Tgt} {e : FE} {s : Slots} {μ : Mem} {Q : U → Mem → Prop} {E : Str → Mem → Prop} (us : List U) (c : Nat → Cell) (hn : us.length < 1000000) (hit : ∀ μ', Fr μ μ' → ∀ i, Dg.itemAt j i μ' = some us[i]?)
    (he : ∀ i (h : i < us.length) μ', Fr μ μ' → ∃ s1, setT g us[i] (wipeU s own) = some s1 ∧ wpE (e s1 μ') (fun v μ4 => v = .ref μ'.length ∧ μ4 = μ' ++ [c i]) (fun _ _ => False))
    (q : ∀ μ', Fr μ μ' → μ'.length = μ.length + 1 + us.length → μ'[μ.length]? = some (.lst ((List.range us.length).map fun t => U.ref (μ.length + 1 + t))) → (∀ t, t < us.length → μ'[μ.length + 1 + t]? = some (c t)) → Q (.ref μ.length) μ') :
    wpE (lcGo j own g tAll e s μ.length fuelF 0 (μ ++ [.lst []])) Q E := by
  refine lc_it us (fun i μ' => Fr μ μ' ∧ μ'.length = μ.length + 1 + i ∧ μ'[μ.length]? = some (.lst ((List.range i).map fun t => U.ref (μ.length + 1 + t))) ∧ ∀ t, t < i → μ'[μ.length + 1 + t]? = some (c t)) hn ⟨Fr.refl.snoc, by simp, by simp, fun t h => by omega⟩ (fun i μ' h => hit μ' h.1 i) ?_ ?_
  · rintro i μ' hi ⟨f, hl, cd, z⟩
    obtain ⟨s1, e1, w⟩ := he i hi μ' f
    refine ⟨s1, e1, ?_⟩
    show wpE (e s1 μ') _ _
    refine wpE.mono w fun v μ4 ⟨a, b⟩ => ?_
    subst a b
    refine ⟨_, get_snoc_lt cd, by simp only [List.length_map, List.length_range, lim]; omega, (f.snoc).put (Nat.le_refl _), by simp; omega, ?_, fun t ht => ?_⟩
    · rw [get_set (get_snoc_lt cd), List.range_succ, List.map_append, hl]
      rfl
    · by_cases h : t < i
      · exact get_set_ne (get_snoc_lt (z t h)) (by omega)
      · have : t = i := by omega
        subst this
        refine get_set_ne ?_ (by omega)
        rw [← hl]
        exact get_snoc
  · rintro μ' ⟨f, hl, cd, z⟩
    exact q μ' f hl cd z
/-- {k(x): v(x) for x in us}, the keys different ints -/
theorem dk_fm {α : Type} {j : IterU} {own : List Nat} {g : Tgt} {kk e : FE} {s : Slots} {μ : Mem} {Q : U → Mem → Prop} {E : Str → Mem → Prop} (xs : List α) (f : Nat → α → U) (k : α → Int) (v : Nat → α → U) (hn : xs.length < 1000000) (nd : (xs.map k).Nodup)
    (hit : ∀ i acc, Dg.itemAt j i (μ ++ [.dct acc]) = some (xs.mapIdx f)[i]?)
    (step : ∀ i (h : i < xs.length) acc, ∃ s1, setT g (f i xs[i]) (wipeU s own) = some s1 ∧ wpE (kk s1 (μ ++ [Cell.dct acc])) (fun w μ4 => w = .int (k xs[i]) ∧ μ4 = μ ++ [Cell.dct acc] ∧ wpE (e s1 (μ ++ [Cell.dct acc])) (fun w μ5 => w = v i xs[i] ∧ μ5 = μ ++ [Cell.dct acc]) (fun _ _ => False)) (fun _ _ => False))
    (q : Q (.ref μ.length) (μ ++ [.dct (xs.mapIdx fun i x => (.inl (k x), v i x))])) : wpE (dkGo j own g tAll kk e s μ.length fuelF 0 (μ ++ [.dct []])) Q E := by
  refine dk_it (xs.mapIdx f) (by simpa using hn) (fun i μ' => μ' = μ ++ [.dct ((xs.mapIdx fun i x => ((.inl (k x) : Key), v i x)).take i)]) (by simp) (fun i μ' e => by rw [e]; exact hit i _) ?_ ?_
  · rintro i μ' hi rfl
    have hi' : i < xs.length := by simpa using hi
    obtain ⟨s1, e1, w⟩ := step i hi' ((xs.mapIdx fun i x => ((.inl (k x) : Key), v i x)).take i)
    refine ⟨s1, by rw [List.getElem_mapIdx]; exact e1, rfl, wpE.mono w fun w μ4 ⟨a, b, w2⟩ => ?_⟩
    subst a b
    refine wpE.mono w2 fun w μ5 ⟨a, b⟩ => ?_
    subst a b
    have hl : i < (xs.mapIdx fun i x => ((.inl (k x) : Key), v i x)).length := by simpa using hi'
    refine ⟨_, _, get_snoc, rfl, by rw [List.length_take]; simp only [lim]; omega, ?_⟩
    have hno : valU ((xs.mapIdx fun i x => ((.inl (k x) : Key), v i x)).take i) (.inl (k xs[i])) = none := by
      unfold valU
      rw [Option.map_eq_none_iff, List.find?_eq_none]
      intro p hp e
      obtain ⟨t, ht, ep⟩ := List.getElem_of_mem hp
      rw [List.length_take] at ht
      rw [List.getElem_take, List.getElem_mapIdx] at ep
      have e2 := of_decide_eq_true e
      rw [← ep] at e2
      have e3 : k (xs[t]'(by omega)) = k xs[i] := Sum.inl.inj e2
      have := Dg.nodup_inj nd (i := t) (j := i) (by simp; omega) (by simp; omega) (by simpa using e3)
      omega
    rw [List.set_append_right _ _ (Nat.le_refl _), Nat.sub_self, put_new hno, ← List.take_append_getElem hl, List.getElem_mapIdx]
    rfl
  · rintro μ' rfl
    rw [List.length_mapIdx, List.take_of_length_le (by simp)]
    exact q
/-- a comprehension of values, while the memory grows -/
theorem lc_val {α : Type} {j : IterU} {own : List Nat} {g : Tgt} {e : FE} {s : Slots} {μ : Mem} {Q : U → Mem → Prop} {E : Str → Mem → Prop} (xs : List α) (f : α → U) (v : α → U) (hn : xs.length < 1000000) (hit : ∀ μ', Fr μ μ' → ∀ i, Dg.itemAt j i μ' = some (xs.map f)[i]?)
    (he : ∀ x ∈ xs, ∀ μ', Fr μ μ' → ∃ s1, setT g (f x) (wipeU s own) = some s1 ∧ wpE (e s1 μ') (fun w μ4 => w = v x ∧ Fr μ' μ4) (fun _ _ => False))
    (q : ∀ μ', Fr μ μ' → μ'[μ.length]? = some (.lst (xs.map v)) → Q (.ref μ.length) μ') : wpE (lcGo j own g tAll e s μ.length fuelF 0 (μ ++ [.lst []])) Q E := by
  refine lc_it (xs.map f) (fun i μ' => Fr μ μ' ∧ μ'[μ.length]? = some (.lst ((xs.take i).map v))) (by simpa using hn) ⟨Fr.refl.snoc, by simp⟩ (fun i μ' h => hit μ' h.1 i) ?_ ?_
  · rintro i μ' hi ⟨fr, cd⟩
    have hi' : i < xs.length := by simpa using hi
    obtain ⟨s1, e1, w⟩ := he xs[i] (List.getElem_mem hi') μ' fr
    refine ⟨s1, by rw [List.getElem_map]; exact e1, ?_⟩
    show wpE (e s1 μ') _ _
    refine wpE.mono w fun w μ4 ⟨a, b⟩ => ?_
    subst a
    refine ⟨_, b.at_ _ _ cd, by rw [List.length_map, List.length_take]; simp only [lim]; omega, (fr.trans b).put (Nat.le_refl _), ?_⟩
    rw [get_set (b.at_ _ _ cd), show xs.take (i + 1) = xs.take i ++ [xs[i]] by rw [List.take_append_getElem], List.map_append]
    rfl
  · rintro μ' ⟨fr, cd⟩
    rw [List.length_map, List.take_length] at cd
    exact q μ' fr cd
/-! rows in memory -/
def RowsU (μ : Mem) (u : U) (R : List (List Int)) : Prop := ∃ us : List U, seqU μ u = some us ∧ us.length = R.length ∧ ∀ (i : Nat) (w : U) (r : List Int), us[i]? = some w → R[i]? = some r → seqU μ w = some (r.map U.int)
theorem RowsU.fr {μ μ' : Mem} {u : U} {R : List (List Int)} (h : RowsU μ u R) (f : Fr μ μ') : RowsU μ' u R := by
  obtain ⟨us, a, b, c⟩ := h
  exact ⟨us, seq_fr a f, b, fun i w r h1 h2 => seq_fr (c i w r h1 h2) f⟩
theorem rd_row0 {μ0 μ : Mem} {u : U} {R : List (List Int)} {i : Int} {Q : U → Mem → Prop} {E : Str → Mem → Prop} (h : RowsU μ0 u R) (f : Fr μ0 μ) (h0 : 0 ≤ i) (h1 : i < R.length) (q : ∀ w, seqU μ0 w = some ((R.getD i.toNat []).map U.int) → Q w μ) : wpE (ixU u (.int i) μ) Q E := by
  obtain ⟨us, a, b, c⟩ := h
  obtain ⟨n, rfl⟩ := Int.eq_ofNat_of_zero_le h0
  rw [w_ixS (seq_fr a f), Dg.atI_nat]
  have hn : n < us.length := by omega
  refine ⟨us[n], List.getElem?_eq_getElem hn, q _ ?_⟩
  rw [Int.toNat_natCast, List.getD_eq_getElem?_getD, List.getElem?_eq_getElem (by omega)]
  exact c n _ _ (List.getElem?_eq_getElem hn) (List.getElem?_eq_getElem (by omega))
/-! two fors -/
section
variable {own own1 : List Nat} {g g1 : Tgt} {it it1 : FI} {e : FE} {s : Slots} {d : Nat} {μ : Mem} {Q : U → Mem → Prop} {E : Str → Mem → Prop} {j : IterU}
theorem w_lc2 : wpE (fLc2 it own g it1 own1 g1 e s μ) Q E = wpE (it s μ) (fun j μ1 => wpE (lc2Go j own g it1 own1 g1 e s μ1.length fuelF 0 (μ1 ++ [.lst []])) Q E) E := w_bind
theorem lc2_in {s1 : Slots} {next : Mem → Res U} (ys : List U) (P : Mem → Prop) (hit : ∀ μ, P μ → ∀ i, Dg.itemAt j i μ = some ys[i]?)
    (step : ∀ μ, P μ → ∀ i (h : i < ys.length), ∃ s2, setT g1 ys[i] (wipeU s1 own1) = some s2 ∧ e s2 μ = .ok ys[i] μ) (put : ∀ μ c, P μ → P (μ.set d c)) {acc : List U} (hl : acc.length + ys.length < lim)
    (q : ∀ μ, P μ → μ[d]? = some (.lst (acc ++ ys)) → wpE (next μ) Q E) : ∀ (f i : Nat) (μ : Mem), ys.length < f + i → i ≤ ys.length → P μ → μ[d]? = some (.lst (acc ++ ys.take i)) → wpE (lc2In j own1 g1 e s1 d next f i μ) Q E := by
  intro f
  induction f with
  | zero => intro i μ hf hi; omega
  | succ f ih =>
    intro i μ hf hi hP c
    unfold lc2In
    rw [hit μ hP i]
    by_cases e0 : i < ys.length
    · obtain ⟨s2, e1, e2⟩ := step μ hP i e0
      rw [List.getElem?_eq_getElem e0]
      simp only [e1, e2, c]
      rw [if_pos (by rw [List.length_append, List.length_take]; omega)]
      refine ih (i + 1) _ (by omega) (by omega) (put _ _ hP) ?_
      rw [get_set c, List.append_assoc, List.take_append_getElem]
    · have : i = ys.length := by omega
      subst this
      rw [List.getElem?_eq_none (by omega)]
      rw [List.take_length] at c
      exact q μ hP c
theorem lc2_fm {α : Type} (xs : List α) (f : α → U) (ys : α → List U) (P : Mem → Prop) (hn : xs.length < 1000000) (hy : (xs.flatMap ys).length < 900000) (hit : ∀ μ, P μ → ∀ i, Dg.itemAt j i μ = some (xs.map f)[i]?)
    (put : ∀ μ c, P μ → P (μ.set d c))
    (step : ∀ x ∈ xs, ∀ μ, P μ → (∃ acc, μ[d]? = some (.lst acc)) → ∃ s1, setT g (f x) (wipeU s own) = some s1 ∧ wpE (it1 s1 μ) (fun j1 μ3 => ∃ P3 : Mem → Prop, P3 μ3 ∧ (∀ μ4, P3 μ4 → P μ4) ∧ (∀ μ4 c, P3 μ4 → P3 (μ4.set d c)) ∧ μ3[d]? = μ[d]? ∧
      (∀ μ4, P3 μ4 → ∀ i, Dg.itemAt j1 i μ4 = some (ys x)[i]?) ∧ ∀ μ4, P3 μ4 → ∀ i (h : i < (ys x).length), ∃ s2, setT g1 (ys x)[i] (wipeU s1 own1) = some s2 ∧ e s2 μ4 = .ok (ys x)[i] μ4) (fun _ _ => False))
    (fin : ∀ μ, P μ → μ[d]? = some (.lst (xs.flatMap ys)) → Q (.ref d) μ) (h0 : P μ) (c0 : μ[d]? = some (.lst [])) : wpE (lc2Go j own g it1 own1 g1 e s d fuelF 0 μ) Q E := by
  have main : ∀ (f' i : Nat) (μ : Mem), xs.length < f' + i → i ≤ xs.length → P μ → μ[d]? = some (.lst ((xs.take i).flatMap ys)) → wpE (lc2Go j own g it1 own1 g1 e s d f' i μ) Q E := by
    intro f'
    induction f' with
    | zero => intro i μ hf hi; omega
    | succ f' ih =>
      intro i μ hf hi hP c
      unfold lc2Go
      rw [hit μ hP i]
      by_cases e0 : i < xs.length
      · obtain ⟨s1, e1, w⟩ := step xs[i] (List.getElem_mem e0) μ hP ⟨_, c⟩
        rw [List.getElem?_map, List.getElem?_eq_getElem e0]
        simp only [Option.map_some, e1]
        obtain ⟨j1, μ3, ej, P3, p1, p2, p3, p4, p5, p6⟩ := w.get
        simp only [ej]
        have ht : xs.take (i + 1) = xs.take i ++ [xs[i]] := by rw [List.take_append_getElem]
        have hlen : ((xs.take i).flatMap ys).length + (ys xs[i]).length ≤ (xs.flatMap ys).length := by
          have e2 : xs.flatMap ys = (xs.take i ++ xs[i] :: xs.drop (i + 1)).flatMap ys := by rw [List.getElem_cons_drop, List.take_append_drop]
          rw [e2, List.flatMap_append, List.flatMap_cons, List.length_append, List.length_append]
          omega
        refine lc2_in (ys xs[i]) P3 p5 p6 p3 (acc := (xs.take i).flatMap ys) (by simp only [lim]; omega) (fun μ4 h4 c4 => ?_) fuelF 0 μ3 (by simp only [fuelF]; omega) (Nat.zero_le _) p1 (by rw [p4, c]; simp)
        refine ih (i + 1) μ4 (by omega) (by omega) (p2 _ h4) ?_
        rw [c4, ht, List.flatMap_append]
        simp
      · have : i = xs.length := by omega
        subst this
        rw [List.getElem?_map, List.getElem?_eq_none (by omega)]
        rw [List.take_length] at c
        exact fin μ hP c
  exact main fuelF 0 μ (by simp only [fuelF]; omega) (Nat.zero_le _) h0 (by simpa using c0)
end
local macro_rules | `(tactic| walk_at "gos") => `(tactic| simp (config := {decide := true}) only [w_run, w_geXI, w_geXP, w_lz, w_op, w_isi, Dg.wipeU, w_powI, w_intB, w_sl, w_oNone, w_oSome, w_slT, w_slF, w_ixF, w_lenF, w_abs, w_max2, w_min2, w_fdivI, w_neg, w_andE, w_orE, w_notE, w_chain, w_c, w_var, w_call, w_def, w_anil, w_acons, w_tup, w_lst, w_int, w_intB, w_lenT, w_addI, w_subI, w_modI, w_mulI, w_ltI, w_leI, w_gtI, w_geI, w_eq, w_ne, w_ixT, w_if, w_nt, w_an, w_or, w_all, w_tstB, w_tst, w_app, w_lc, w_for, w_rg1, w_rev1, w_d0, Dg.eq_str, Dg.eq_int, s_seq, s_next, s_brk, s_cnt, s_expr, s_ret, s_retN, s_if, w_getE, w_items, w_keys, w_fmt, w_js0, w_js, s_asg1, s_store, s_tryAs, s_try, w_isX, s_raise, List.map_cons, List.map_nil, List.cons_append, List.nil_append, List.length_cons, List.length_nil, List.replicate_succ, List.replicate_zero, Nat.add_sub_cancel, Nat.sub_self, Nat.sub_zero, Nat.reduceAdd, Nat.reduceSub, Nat.zero_add, List.set_cons_succ, List.set_cons_zero, List.getElem?_cons_zero, List.getElem?_cons_succ, Option.some.injEq, exists_eq_left', exists_eq_left, exists_eq_right', U.bl.injEq, U.int.injEq, U.ref.injEq, U.str.injEq, atI_0, atI_1, atI_2, atI_3, atI_4, atI_5, if_true, if_false, true_and, and_true, decide_true, decide_false, Bool.not_true, Bool.not_false, reduceCtorEq, ite_true, ite_false, decide_eq_true_eq, Bool.true_eq_false, Bool.false_eq_true])
namespace Le
structure MetS (g : List U → Mem → Res U) : Prop where
  ap : ∀ {n : Nat} {R : List (List Int)} {u : U} {start : Int} {μ : Mem} {Q : U → Mem → Prop} {E : Str → Mem → Prop}, RowsU μ u R → R.length = n → n ≤ 5000 → (∀ r ∈ R, r.length ≤ 1000 ∧ ∀ t ∈ r, -1 ≤ t ∧ t < n) → 0 ≤ start → start < n →
    (∀ (F : List Int) (ess : List (List Int)) (r : Nat) μ', Fr μ μ' → μ.length ≤ r → μ'[r]? = some (.lst (F.map U.int)) → F = run [start] ess → ess.length = F.length → (∀ j, j < ess.length → j < (run [start] (ess.take j)).length) →
      (∀ (j : Nat) (s : Int), F[j]? = some s → ess[j]? = some (R.getD s.toNat [])) → (∀ s ∈ F, 0 ≤ s ∧ s < n) → F.Nodup → Q (.ref r) μ') → wpE (g [u, .int start] μ) Q E
theorem getD_in {R : List (List Int)} {i : Int} (h0 : 0 ≤ i) (h1 : i < R.length) : R.getD i.toNat [] ∈ R := by
  rw [List.getD_eq_getElem?_getD, List.getElem?_eq_getElem (by omega)]
  exact List.getElem_mem _
theorem few_in {n : Nat} {F : List Int} (nd : F.Nodup) (h : ∀ s ∈ F, 0 ≤ s ∧ s < n) : F.length ≤ n := by
  have := nd.length_le_of_subset (l₂ := (List.range n).map fun i => ((i : Nat) : Int)) fun x hx => by
    obtain ⟨a, b⟩ := h x hx
    exact List.mem_map.mpr ⟨x.toNat, List.mem_range.mpr (by omega), by omega⟩
  simpa using this
theorem met_s {C : Calls} : MetS (runDef 7 (b_met_from C)) := by
  constructor
  intro n R u start μ Q E hu hR hn hrow h0 h1 q
  unfold b_met_from
  simp (config := {decide := true}) only [w_disp, w_pairs, w_pairs0, w_run, w_geXI, w_geXP, w_lz, w_op, w_isi, Dg.wipeU, w_powI, w_intB, w_sl, w_oNone, w_oSome, w_slT, w_slF, w_ixF, w_lenF, w_abs, w_max2, w_min2, w_fdivI, w_neg, w_andE, w_orE, w_notE, w_chain, w_c, w_var, w_call, w_def, w_anil, w_acons, w_tup, w_lst, w_int, w_intB, w_lenT, w_addI, w_subI, w_modI, w_mulI, w_ltI, w_leI, w_gtI, w_geI, w_eq, w_ne, w_ixT, w_if, w_nt, w_an, w_or, w_all, w_tstB, w_tst, w_app, w_lc, w_for, w_iseqT, w_rg1, w_rev1, w_d0, Dg.eq_str, Dg.eq_int, s_seq, s_next, s_brk, s_cnt, s_expr, s_ret, s_retN, s_if, w_getE, w_items, w_keys, w_fmt, w_js0, w_js, s_asg1, s_store, s_tryAs, s_try, w_isX, s_raise, List.map_cons, List.map_nil, List.cons_append, List.nil_append, List.length_cons, List.length_nil, List.replicate_succ, List.replicate_zero, Nat.add_sub_cancel, Nat.sub_self, Nat.sub_zero, Nat.reduceAdd, Nat.reduceSub, Nat.zero_add, List.set_cons_succ, List.set_cons_zero, List.getElem?_cons_zero, List.getElem?_cons_succ, Option.some.injEq, exists_eq_left', exists_eq_left, exists_eq_right', U.bl.injEq, U.int.injEq, U.ref.injEq, U.str.injEq, atI_0, atI_1, atI_2, atI_3, atI_4, atI_5, if_true, if_false, true_and, and_true, decide_true, decide_false, Bool.not_true, Bool.not_false, reduceCtorEq, ite_true, ite_false, decide_eq_true_eq, Bool.true_eq_false, Bool.false_eq_true]
  refine ⟨_, rfl, get_snoc, ?_⟩
  have c2 : ((μ ++ [Cell.lst [U.int start]] ++ [Cell.dct []]).set (μ ++ [Cell.lst [U.int start]]).length (Cell.dct (mergeU [] [(Sum.inl start, U.bl true)])))[μ.length]? = some (.lst ([start].map U.int)) := get_set_ne (get_snoc_lt get_snoc) (by simp)
  have c3 : ((μ ++ [Cell.lst [U.int start]] ++ [Cell.dct []]).set (μ ++ [Cell.lst [U.int start]]).length (Cell.dct (mergeU [] [(Sum.inl start, U.bl true)])))[μ.length + 1]? = some (.dct (kN [start])) := by
    rw [show μ.length + 1 = (μ ++ [Cell.lst [U.int start]]).length by simp]
    exact get_set get_snoc
  have f0 : Fr μ ((μ ++ [Cell.lst [U.int start]] ++ [Cell.dct []]).set (μ ++ [Cell.lst [U.int start]]).length (Cell.dct (mergeU [] [(Sum.inl start, U.bl true)]))) := Fr.refl.snoc.snoc.put (by simp)
  rw [show (μ ++ [Cell.lst [U.int start]]).length = μ.length + 1 by simp]
  rw [show (μ ++ [Cell.lst [U.int start]]).length = μ.length + 1 by simp] at c2 c3 f0
  generalize ((μ ++ [Cell.lst [U.int start]] ++ [Cell.dct []]).set (μ.length + 1) (Cell.dct (mergeU [] [(Sum.inl start, U.bl true)]))) = μ0 at c2 c3 f0 ⊢
  refine while_go (fun m s' μ' => ∃ (at' : Nat) (x5 x6 : Option U) (ess : List (List Int)), s' = [some u, some (.int start), some (.ref μ.length), some (.ref (μ.length + 1)), some (.int (at' : Nat)), x5, x6] ∧ Fr μ μ' ∧
      μ'[μ.length]? = some (.lst ((run [start] ess).map U.int)) ∧ μ'[μ.length + 1]? = some (.dct (kN (run [start] ess))) ∧ ess.length = at' ∧ at' + m = n ∧ (∀ j, j < ess.length → j < (run [start] (ess.take j)).length) ∧
      (∀ (j : Nat) (s : Int), j < at' → (run [start] ess)[j]? = some s → ess[j]? = some (R.getD s.toNat [])) ∧ (∀ s ∈ run [start] ess, 0 ≤ s ∧ s < n)) (m := n) (by omega)
    ⟨0, _, _, [], rfl, f0, c2, c3, rfl, by omega, by simp, fun j s hj => by omega, fun s hs => by simp [run] at hs; subst hs; exact ⟨h0, h1⟩⟩ ?_
  rintro m s' μ' ⟨at', x5, x6, ess, rfl, fr, c2, c3, hl, hm, hlt, hes, hin⟩
  have nd : (run [start] ess).Nodup := run_nodup ess (by simp)
  have few := few_in nd hin
  walk_at "gos"
  rw [w_lenL c2, List.length_map]
  try walk_at "gos"
  by_cases hat : at' < (run [start] ess).length
  · rw [if_pos (by omega)]
    refine ⟨m - 1, by omega, ?_⟩
    try walk_at "gos"
    rw [w_ixL c2, Dg.atI_nat, List.getElem?_map, List.getElem?_eq_getElem hat]
    refine ⟨_, rfl, ?_⟩
    have hs := hin _ (List.getElem_mem hat)
    generalize hsv : (run [start] ess)[at'] = sv at hs
    refine rd_row0 hu fr hs.1 (by omega) fun w hw => ?_
    have hmem := getD_in (R := R) hs.1 (by omega)
    obtain ⟨hrl, hrt⟩ := hrow _ hmem
    generalize hent : R.getD sv.toNat [] = ent at hw hrl hrt
    try walk_at "gos"
    refine w_iseqS ?_
    try walk_at "gos"
    refine ⟨_, seq_fr hw fr, fun j hj => ?_⟩
    refine for_it (ent.map U.int) (fun i s' μ1 => ∃ x6, s' = [some u, some (.int start), some (.ref μ.length), some (.ref (μ.length + 1)), some (.int (at' : Nat)), some w, x6] ∧ Fr μ μ1 ∧
        μ1[μ.length]? = some (.lst ((addR (run [start] ess) (ent.take i)).map U.int)) ∧ μ1[μ.length + 1]? = some (.dct (kN (addR (run [start] ess) (ent.take i))))) (by simp; omega) ⟨_, rfl, fr, by simpa [addR] using c2, by simpa [addR] using c3⟩ ?_ ?_ ?_
    · rintro i s' μ1 ⟨x6, rfl, fr1, d2, d3⟩
      exact hj μ1 (seq_fr hw fr1) i
    · rintro i s' μ1 hi ⟨x6, rfl, fr1, d2, d3⟩
      have hi' : i < ent.length := by simpa using hi
      rw [List.getElem_map]
      refine ⟨_, rfl, ?_⟩
      have ht : ent.take (i + 1) = ent.take i ++ [ent[i]] := by rw [List.take_append_getElem]
      have e0 := hrt _ (List.getElem_mem hi')
      rw [ht, addR_snoc]
      have nd1 : (addR (run [start] ess) (ent.take i)).Nodup := addR_nodup _ nd
      have in1 : ∀ s ∈ addR (run [start] ess) (ent.take i), 0 ≤ s ∧ s < n := by
        intro s hs
        rcases (addR_mem _).mp hs with h | ⟨h, h2⟩
        · exact hin s h
        · have := hrt s (List.mem_of_mem_take h); omega
      have few1 := few_in nd1 in1
      generalize addR (run [start] ess) (ent.take i) = F1 at d2 d3 few1 ⊢
      generalize ent[i] = tt at e0
      generalize hF2 : (if tt ≠ -1 ∧ tt ∉ F1 then F1 ++ [tt] else F1) = F2
      walk_at "go"
      by_cases h1' : tt = -1
      · have : F1 = F2 := by rw [← hF2, if_neg (by simp [h1'])]
        subst this
        subst h1'
        walk_at "go"
        exact ⟨_, rfl, fr1, d2, d3⟩
      · simp (config := {decide := true}) only [h1', w_run, w_geXI, w_geXP, w_lz, w_op, w_isi, Dg.wipeU, w_powI, w_intB, w_sl, w_oNone, w_oSome, w_slT, w_slF, w_ixF, w_lenF, w_abs, w_max2, w_min2, w_fdivI, w_neg, w_andE, w_orE, w_notE, w_chain, w_c, w_var, w_call, w_def, w_anil, w_acons, w_tup, w_lst, w_int, w_intB, w_lenT, w_addI, w_subI, w_modI, w_mulI, w_ltI, w_leI, w_gtI, w_geI, w_eq, w_ne, w_ixT, w_if, w_nt, w_an, w_or, w_all, w_tstB, w_tst, w_app, w_lc, w_for, w_iseqT, w_rg1, w_rev1, w_d0, Dg.eq_str, Dg.eq_int, s_seq, s_next, s_brk, s_cnt, s_expr, s_ret, s_retN, s_if, w_getE, w_items, w_keys, w_fmt, w_js0, w_js, s_asg1, s_store, s_tryAs, s_try, w_isX, s_raise, List.map_cons, List.map_nil, List.cons_append, List.nil_append, List.length_cons, List.length_nil, List.replicate_succ, List.replicate_zero, Nat.add_sub_cancel, Nat.sub_self, Nat.sub_zero, Nat.reduceAdd, Nat.reduceSub, Nat.zero_add, List.set_cons_succ, List.set_cons_zero, List.getElem?_cons_zero, List.getElem?_cons_succ, Option.some.injEq, exists_eq_left', exists_eq_left, exists_eq_right', U.bl.injEq, U.int.injEq, U.ref.injEq, U.str.injEq, atI_0, atI_1, atI_2, atI_3, atI_4, atI_5, if_true, if_false, true_and, and_true, decide_true, decide_false, Bool.not_true, Bool.not_false, reduceCtorEq, ite_true, ite_false, decide_eq_true_eq, Bool.true_eq_false, Bool.false_eq_true]
        rw [w_ninD d3, val_kN]
        by_cases h2 : tt ∈ F1
        · have : F1 = F2 := by rw [← hF2, if_neg (by simp [h2])]
          subst this
          simp (config := {decide := true}) only [h2, Option.isSome_some, if_neg, not_false_eq_true, w_run, w_geXI, w_geXP, w_lz, w_op, w_isi, Dg.wipeU, w_powI, w_intB, w_sl, w_oNone, w_oSome, w_slT, w_slF, w_ixF, w_lenF, w_abs, w_max2, w_min2, w_fdivI, w_neg, w_andE, w_orE, w_notE, w_chain, w_c, w_var, w_call, w_def, w_anil, w_acons, w_tup, w_lst, w_int, w_intB, w_lenT, w_addI, w_subI, w_modI, w_mulI, w_ltI, w_leI, w_gtI, w_geI, w_eq, w_ne, w_ixT, w_if, w_nt, w_an, w_or, w_all, w_tstB, w_tst, w_app, w_lc, w_for, w_iseqT, w_rg1, w_rev1, w_d0, Dg.eq_str, Dg.eq_int, s_seq, s_next, s_brk, s_cnt, s_expr, s_ret, s_retN, s_if, w_getE, w_items, w_keys, w_fmt, w_js0, w_js, s_asg1, s_store, s_tryAs, s_try, w_isX, s_raise, List.map_cons, List.map_nil, List.cons_append, List.nil_append, List.length_cons, List.length_nil, List.replicate_succ, List.replicate_zero, Nat.add_sub_cancel, Nat.sub_self, Nat.sub_zero, Nat.reduceAdd, Nat.reduceSub, Nat.zero_add, List.set_cons_succ, List.set_cons_zero, List.getElem?_cons_zero, List.getElem?_cons_succ, Option.some.injEq, exists_eq_left', exists_eq_left, exists_eq_right', U.bl.injEq, U.int.injEq, U.ref.injEq, U.str.injEq, atI_0, atI_1, atI_2, atI_3, atI_4, atI_5, if_true, if_false, true_and, and_true, decide_true, decide_false, Bool.not_true, Bool.not_false, reduceCtorEq, ite_true, ite_false, decide_eq_true_eq, Bool.true_eq_false, Bool.false_eq_true]
          exact ⟨_, rfl, fr1, d2, d3⟩
        · have : F1 ++ [tt] = F2 := by rw [← hF2, if_pos ⟨h1', h2⟩]
          subst this
          simp (config := {decide := true}) only [h2, Option.isSome_none, not_false_eq_true, w_run, w_geXI, w_geXP, w_lz, w_op, w_isi, Dg.wipeU, w_powI, w_intB, w_sl, w_oNone, w_oSome, w_slT, w_slF, w_ixF, w_lenF, w_abs, w_max2, w_min2, w_fdivI, w_neg, w_andE, w_orE, w_notE, w_chain, w_c, w_var, w_call, w_def, w_anil, w_acons, w_tup, w_lst, w_int, w_intB, w_lenT, w_addI, w_subI, w_modI, w_mulI, w_ltI, w_leI, w_gtI, w_geI, w_eq, w_ne, w_ixT, w_if, w_nt, w_an, w_or, w_all, w_tstB, w_tst, w_app, w_lc, w_for, w_iseqT, w_rg1, w_rev1, w_d0, Dg.eq_str, Dg.eq_int, s_seq, s_next, s_brk, s_cnt, s_expr, s_ret, s_retN, s_if, w_getE, w_items, w_keys, w_fmt, w_js0, w_js, s_asg1, s_store, s_tryAs, s_try, w_isX, s_raise, List.map_cons, List.map_nil, List.cons_append, List.nil_append, List.length_cons, List.length_nil, List.replicate_succ, List.replicate_zero, Nat.add_sub_cancel, Nat.sub_self, Nat.sub_zero, Nat.reduceAdd, Nat.reduceSub, Nat.zero_add, List.set_cons_succ, List.set_cons_zero, List.getElem?_cons_zero, List.getElem?_cons_succ, Option.some.injEq, exists_eq_left', exists_eq_left, exists_eq_right', U.bl.injEq, U.int.injEq, U.ref.injEq, U.str.injEq, atI_0, atI_1, atI_2, atI_3, atI_4, atI_5, if_true, if_false, true_and, and_true, decide_true, decide_false, Bool.not_true, Bool.not_false, reduceCtorEq, ite_true, ite_false, decide_eq_true_eq, Bool.true_eq_false, Bool.false_eq_true]
          refine ⟨_, stU_DI d3 (by rw [kN_len]; simp only [lim]; omega), ?_⟩
          rw [put_kN, if_neg h2]
          have d2' := get_set_ne (c := .dct (kN (F1 ++ [tt]))) d2 (show μ.length + 1 ≠ μ.length by omega)
          have d3' := get_set (c := .dct (kN (F1 ++ [tt]))) d3
          have fr2 : Fr μ (μ1.set (μ.length + 1) (.dct (kN (F1 ++ [tt])))) := fr1.put (by omega)
          refine ⟨_, lstU_L d2', ?_⟩
          rw [w_append d2' (by simp only [List.length_map, lim]; omega)]
          refine ⟨_, rfl, fr2.put (by omega), ?_, ?_⟩
          · rw [get_set d2']; simp
          · exact get_set_ne d3' (by omega)
    · rintro s' μ1 ⟨x6, rfl, fr1, d2, d3⟩
      rw [List.length_map, List.take_length, ← run_snoc] at d2 d3
      walk_at "go"
      have hw' : ent = R.getD sv.toNat [] := hent.symm
      refine ⟨at' + 1, some w, x6, ess ++ [ent], by simp, fr1, d2, d3, by simp [hl], by omega, fun j hj' => ?_, fun j s' hj' e => ?_, fun s' hs' => ?_⟩
      · by_cases hj2 : j < ess.length
        · rw [List.take_append_of_le_length (by omega)]
          exact hlt j hj2
        · have : j = ess.length := by simp at hj'; omega
          subst this
          rw [List.take_left]
          omega
      · rw [run_snoc] at e
        obtain ⟨gx, hg⟩ := addR_ext ent (run [start] ess)
        rw [hg] at e
        by_cases hj2 : j < at'
        · rw [List.getElem?_append_left (by omega)] at e
          rw [List.getElem?_append_left (by omega)]
          exact hes j s' hj2 e
        · have : j = at' := by omega
          subst this
          rw [List.getElem?_append_left hat, List.getElem?_eq_getElem hat, hsv] at e
          cases e
          rw [List.getElem?_append_right (by omega), hl, Nat.sub_self, hw']
          rfl
      · rw [run_snoc] at hs'
        rcases (addR_mem _).mp hs' with h | ⟨h, h2⟩
        · exact hin s' h
        · have := hrt s' h; omega
  · rw [if_neg (by omega)]
    have hat2 : at' ≤ (run [start] ess).length := by
      rcases Nat.eq_zero_or_pos at' with h | h
      · omega
      · have := hlt (at' - 1) (by omega)
        obtain ⟨g, hg⟩ := run_ext (ess.drop (at' - 1)) (run [start] (ess.take (at' - 1)))
        have e : run [start] ess = run (run [start] (ess.take (at' - 1))) (ess.drop (at' - 1)) := by
          unfold run
          rw [← List.foldl_append, List.take_append_drop]
        rw [← e] at hg
        rw [hg, List.length_append]
        omega
    have hlen : ess.length = (run [start] ess).length := by omega
    exact q _ ess _ μ' fr (Nat.le_refl _) c2 rfl hlen hlt (fun j s e => hes j s (by have := (List.getElem?_eq_some_iff.mp e).1; omega) e) hin nd
end Le
namespace Le
/-- a machine in memory -/
structure McU (L n : Nat) (μ : Mem) (u ua : U) (R : List (List Int)) (A : List Bool) : Prop where
  rows : RowsU μ u R
  acc : seqU μ ua = some (A.map U.bl)
  wf : Wf L R A
  len : R.length = n
  n5 : n ≤ 5000
  l1 : L ≤ 1000
  nl : n * L ≤ 900000
  nf : ∀ xs, u ≠ .frl xs
theorem McU.fr {L n : Nat} {μ μ' : Mem} {u ua : U} {R : List (List Int)} {A : List Bool} (h : McU L n μ u ua R A) (f : Fr μ μ') : McU L n μ' u ua R A := ⟨h.rows.fr f, seq_fr h.acc f, h.wf, h.len, h.n5, h.l1, h.nl, h.nf⟩
structure LiveS (g : List U → Mem → Res U) : Prop where
  ap : ∀ {L n : Nat} {R : List (List Int)} {A : List Bool} {u ua : U} {μ : Mem} {Q : U → Mem → Prop} {E : Str → Mem → Prop}, McU L n μ u ua R A →
    (∀ (K : List Int) (r : Nat) μ', Fr μ μ' → μ.length ≤ r → μ'[r]? = some (.dct (kN K)) → (∀ s ∈ K, 0 ≤ s ∧ s < n) → K.Nodup → (∀ s : Int, 0 ≤ s → s < n → (s ∈ K ↔ ∃ w, lng R A s w = true)) → Q (.ref r) μ') → wpE (g [u, ua] μ) Q E
/-- where the sources lie -/
structure Srcs (n : Nat) (R : List (List Int)) (d : Nat) (μ : Mem) (src : Nat → List Int) (P : Nat → Nat → Prop) (c : Nat) : Prop where
  cell : ∀ t, t < n → μ[d + 1 + t]? = some (.lst ((src t).map U.int))
  mem : ∀ t, t < n → ∀ s : Int, s ∈ src t ↔ ∃ i a : Nat, s = i ∧ i < n ∧ P i a ∧ (R.getD i [])[a]? = some (t : Int)
  len : ∀ t, (src t).length ≤ c
def src7 (C : Calls) : FS :=
    (sSeq (sAsg (.one 6) (fLc (iRg1 (fCall bLen (aCons (fVar 0) aNil))) [3] (.one 3) (tst (fOp ixU (fVar 1) (fVar 3))) (fVar 3)))
    (sSeq (sAsg (.one 7) (fDcK (iSeq (fVar 6)) [3] (.one 3) tAll (fVar 3) (fC (.bl true))))
    (sSeq (sWhile (tst (fVar 6)) (sSeq (sAsg (.one 8) (fOp ixU (fVar 2) (fMtL gPop (fVar 6) aNil)))
    (sFor (iSeq (fVar 8)) (.one 3) (sIf (tstB (fOp uNin (fVar 3) (fVar 7))) (sSeq (sStore (fVar 7) (fVar 3) (fC (.bl true)))
    (sExpr (fMtL gAppend (fVar 6) (aCons (fVar 3) aNil)))) sNext))) fuelF)
    (sRet (fVar 7)))))
theorem live_is (C : Calls) : b_live_states C = (sSeq (sAsg (.one 2) (fLc (iSeq (fVar 0)) [9] (.one 9) tAll (fLst aNil)))
    (sSeq (sFor (iEnumB (fVar 0)) (.tup [3, 4]) (sFor (iSeq (fVar 4)) (.one 5) (sIf (tstB (fOp uNe (fVar 5) (fNeg (fC (.int 1))))) (sExpr (fMtL gAppend (fOp ixU (fVar 2) (fVar 5)) (aCons (fVar 3) aNil))) sNext)))
    (src7 C))) := rfl
/-- a while over what waits -/
theorem live_end {C : Calls} {L n : Nat} {R : List (List Int)} {A : List Bool} {u ua : U} {μ0 μ : Mem} {D : Dn} {d : Nat} {src : Nat → List Int} {x3 x4 x5 x6 x7 x8 x9 : Option U} (M : McU L n μ0 u ua R A) (f : Fr μ0 μ) (hd : μ0.length ≤ d) (cd : μ[d]? = some (.lst ((List.range n).map fun t => U.ref (d + 1 + t))))
    (S : Srcs n R d μ src (fun i a => True) 900000)
    (q : ∀ (K : List Int) (r : Nat) μ', Fr μ0 μ' → μ0.length ≤ r → μ'[r]? = some (.dct (kN K)) → (∀ s ∈ K, 0 ≤ s ∧ s < n) → K.Nodup → (∀ s : Int, 0 ≤ s → s < n → (s ∈ K ↔ ∃ w, lng R A s w = true)) → D.rt (.ref r) μ') :
    Dg.wpS (src7 C [some u, some ua, some (.ref d), x3, x4, x5, x6, x7, x8, x9] μ) D := by
  obtain ⟨us, hu, hul, _⟩ := id M.rows
  have hn5 := M.n5
  have hA : A.length = n := by rw [M.wf.ac, M.len]
  unfold src7
  walk_at "gos"
  rw [w_lenS' (seq_fr hu f), hul, M.len]
  refine ⟨_, rfl, by simp [okR]; omega, ?_⟩
  rw [Int.toNat_natCast]
  refine lc_fm (List.range n) (fun i => U.int ((i : Nat) : Int)) (fun i => A.getD i false) (fun i => U.int ((i : Nat) : Int)) (by simp; omega) (fun i acc => ?_) (fun i hi acc => ?_) ?_
  · rw [item_rng]
    by_cases h : i < n
    · rw [if_pos h, List.getElem?_map, List.getElem?_range h]; simp
    · rw [if_neg h, List.getElem?_eq_none (by simp; omega)]
  · have hi' := List.mem_range.mp hi
    refine ⟨_, rfl, ?_⟩
    walk_at "go"
    rw [w_ixS (seq_fr M.acc (f.snoc)), Dg.atI_nat, List.getElem?_map, List.getElem?_eq_getElem (by omega)]
    refine ⟨_, rfl, _, tru_b, ?_⟩
    rw [List.getD_eq_getElem?_getD, List.getElem?_eq_getElem (by omega)]
    refine ⟨rfl, rfl, fun _ => ?_⟩
    walk_at "go"
  generalize hW : (List.range n).filter (fun i => A.getD i false) = W0
  have hW0 : ∀ i, i ∈ W0 ↔ i < n ∧ A.getD i false = true := fun i => by rw [← hW, List.mem_filter, List.mem_range]
  have ndW : (iN W0).Nodup := by
    rw [← hW]
    unfold iN
    exact (List.nodup_range.filter _).map _ (fun a b h => by intro e; exact h (by omega))
  have lW : W0.length ≤ n := by rw [← hW]; have := List.length_filter_le (fun i => A.getD i false) (List.range n); simpa using this
  rw [show W0.map (fun i => U.int ((i : Nat) : Int)) = (iN W0).map U.int by unfold iN; rw [List.map_map]; rfl]
  refine w_dset ?_
  refine w_iseqS ?_
  walk_at "gos"
  refine ⟨_, seq_Ls get_snoc, fun j hj => ⟨iN W0, ndW, by simp [iN]; omega, fun i acc => hj _ (seq_Ls (get_snoc_lt get_snoc)) i, ?_⟩⟩
  have c6 : (μ ++ [Cell.lst ((iN W0).map U.int)] ++ [Cell.dct (kN (iN W0))])[μ.length]? = some (.lst ((iN W0).map U.int)) := get_snoc_lt get_snoc
  have c7 : (μ ++ [Cell.lst ((iN W0).map U.int)] ++ [Cell.dct (kN (iN W0))])[μ.length + 1]? = some (.dct (kN (iN W0))) := by
    have := get_snoc (μ := μ ++ [Cell.lst ((iN W0).map U.int)]) (c := Cell.dct (kN (iN W0)))
    simpa using this
  have f1 : Fr μ (μ ++ [Cell.lst ((iN W0).map U.int)] ++ [Cell.dct (kN (iN W0))]) := Fr.refl.snoc.snoc
  rw [show (μ ++ [Cell.lst ((iN W0).map U.int)]).length = μ.length + 1 by simp]
  generalize (μ ++ [Cell.lst ((iN W0).map U.int)] ++ [Cell.dct (kN (iN W0))]) = μ1 at c6 c7 f1
  have acc_ : ∀ i : Nat, end_ A i = A.getD i false := fun i => by unfold end_; rw [if_neg (by omega), Int.toNat_natCast]
  refine while_go (fun m s' μ' => ∃ (K W : List Int) (x3 x8 : Option U), s' = [some u, some ua, some (.ref d), x3, x4, x5, some (.ref μ.length), some (.ref (μ.length + 1)), x8, x9] ∧ Fr μ μ' ∧
      μ'[μ.length]? = some (.lst (W.map U.int)) ∧ μ'[μ.length + 1]? = some (.dct (kN K)) ∧ K.Nodup ∧ (∀ s ∈ K, 0 ≤ s ∧ s < n) ∧ (∀ s ∈ W, s ∈ K) ∧ W.length + (n - K.length) = m ∧ m ≤ 2 * n ∧
      (∀ s ∈ K, ∃ w, lng R A s w = true) ∧ (∀ i : Nat, i < n → A.getD i false = true → (i : Int) ∈ K) ∧ (∀ t : Nat, (t : Int) ∈ K → (t : Int) ∉ W → ∀ s ∈ src t, s ∈ K)) (m := W0.length + (n - W0.length)) (by omega)
    ⟨iN W0, iN W0, _, _, rfl, f1, c6, c7, ndW, fun s hs => ?_, fun s hs => hs, by simp [iN], by omega, fun s hs => ?_, fun i hi h => iN_mem.mpr ((hW0 i).mpr ⟨hi, h⟩), fun t h1 h2 => absurd h1 h2⟩ ?_
  · obtain ⟨i, hi, rfl⟩ := List.mem_map.mp hs
    have := ((hW0 i).mp hi).1
    omega
  · obtain ⟨i, hi, rfl⟩ := List.mem_map.mp hs
    exact ⟨[], by rw [lng_nil, acc_]; exact ((hW0 i).mp hi).2⟩
  rintro m s' μ' ⟨K, W, x3', x8', rfl, fr, c6, c7, nd, hin, hsub, hm, hm2, hsound, hacc, hcl⟩
  have fewK := few_in nd hin
  walk_at "gos"
  refine ⟨_, truL c6, ?_⟩
  by_cases hWe : W = []
  · subst hWe
    try walk_at "gos"
    refine q K _ μ' (f.trans fr) (by have := f.le; omega) c7 hin nd fun s h0 h1 => ⟨fun hs => hsound s hs, fun ⟨w, hw⟩ => ?_⟩
    have all : ∀ (w : List Nat) (s : Int), 0 ≤ s → s < n → lng R A s w = true → s ∈ K := by
      intro w
      induction w with
      | nil =>
        intro s h0 h1 h
        obtain ⟨i, rfl⟩ := Int.eq_ofNat_of_zero_le h0
        rw [lng_nil, acc_] at h
        exact hacc i (by omega) h
      | cons a w ih =>
        intro s h0 h1 h
        rw [lng_cons] at h
        have b := M.wf.stp_in (s := s) (a := a)
        by_cases hneg : stp R s a < 0
        · rw [lng_neg hneg] at h; cases h
        · obtain ⟨t, ht⟩ := Int.eq_ofNat_of_zero_le (a := stp R s a) (by omega)
          have htn : t < n := by have := M.len; omega
          have hk := ih _ (by omega) (by have := M.len; omega) h
          rw [ht] at hk
          obtain ⟨i, rfl⟩ := Int.eq_ofNat_of_zero_le h0
          refine hcl t hk (by simp) _ ((S.mem t htn _).mpr ⟨i, a, rfl, by omega, trivial, ?_⟩)
          unfold stp at ht
          rw [if_neg (by omega), Int.toNat_natCast, List.getD_eq_getElem?_getD (l := R.getD i [])] at ht
          cases e : (R.getD i [])[a]? with
          | none => rw [e] at ht; simp at ht
          | some z => rw [e] at ht; simp at ht; rw [ht]
    exact all w s h0 h1 hw
  · obtain ⟨W', t, rfl⟩ : ∃ W' t, W = W' ++ [t] := ⟨W.dropLast, W.getLast hWe, (List.dropLast_concat_getLast hWe).symm⟩
    rw [if_pos (by simp)]
    refine ⟨m - 1, by simp at hm; omega, ?_⟩
    try walk_at "gos"
    refine ⟨_, lstU_L c6, ?_⟩
    rw [List.map_append, List.map_singleton] at c6
    rw [w_pop c6]
    have ht := hin t (hsub t (by simp))
    obtain ⟨tn, rfl⟩ := Int.eq_ofNat_of_zero_le ht.1
    have htn : tn < n := by omega
    have hsrc := S.cell tn htn
    have ne1 : ∀ {i : Nat} {c : Cell}, μ[i]? = some c → (μ'.set μ.length (.lst (W'.map U.int)))[i]? = some c := fun {i c} h => get_set_ne (fr.at_ _ _ h) (by have := get_lt h; omega)
    rw [w_ixL (ne1 cd), Dg.atI_nat, List.getElem?_map, List.getElem?_range htn]
    refine ⟨_, rfl, ?_⟩
    refine w_iseqS ?_
    try walk_at "gos"
    refine ⟨_, seq_Ls (ne1 hsrc), fun j hj => ?_⟩
    have c6' := get_set (c := .lst (W'.map U.int)) c6
    have c7' := get_set_ne (c := .lst (W'.map U.int)) c7 (show μ.length ≠ μ.length + 1 by omega)
    have fr' : Fr μ (μ'.set μ.length (.lst (W'.map U.int))) := fr.put (Nat.le_refl _)
    generalize (μ'.set μ.length (.lst (W'.map U.int))) = μ2 at c6' c7' fr'
    have hl9 := S.len tn
    refine for_it ((src tn).map U.int) (fun i s' μ' => ∃ (K2 W2 : List Int) (x3 : Option U), s' = [some u, some ua, some (.ref d), x3, x4, x5, some (.ref μ.length), some (.ref (μ.length + 1)), some (.ref (d + 1 + tn)), x9] ∧ Fr μ μ' ∧
        μ'[μ.length]? = some (.lst (W2.map U.int)) ∧ μ'[μ.length + 1]? = some (.dct (kN K2)) ∧ K2.Nodup ∧ (∀ s ∈ K2, 0 ≤ s ∧ s < n) ∧ (∀ s ∈ W2, s ∈ K2) ∧ W2.length + (n - K2.length) + 1 = m ∧
        (∀ s ∈ K2, ∃ w, lng R A s w = true) ∧ (∀ s ∈ K, s ∈ K2) ∧ (∀ s ∈ (src tn).take i, s ∈ K2) ∧ (∀ s, s ∈ K2 → s ∉ W2 → s ∈ K ∧ s ∉ W')) (by simp; omega)
      ⟨K, W', _, rfl, fr', c6', c7', nd, hin, fun s hs => hsub s (by simp [hs]), by simp at hm; omega, hsound, fun s hs => hs, fun s hs => by simp at hs, fun s h1 h2 => ⟨h1, h2⟩⟩ ?_ ?_ ?_
    · rintro i s' μ3 ⟨K2, W2, x3, rfl, f3, rest⟩
      exact hj μ3 (seq_Ls (f3.at_ _ _ hsrc)) i
    · rintro i s' μ3 hi ⟨K2, W2, x3, rfl, f3, d6, d7, nd2, in2, sub2, m2, sd2, k2, t2, w2⟩
      have hi' : i < (src tn).length := by simpa using hi
      rw [List.getElem_map]
      refine ⟨_, rfl, ?_⟩
      have hts : (src tn).take (i + 1) = (src tn).take i ++ [(src tn)[i]] := by rw [List.take_append_getElem]
      have hmem : (src tn)[i] ∈ src tn := List.getElem_mem hi'
      rw [hts]
      generalize (src tn)[i] = sv at hmem
      obtain ⟨i0, a0, rfl, hi0, _, hra⟩ := (S.mem tn htn sv).mp hmem
      have few2 := few_in nd2 in2
      walk_at "gos"
      rw [w_ninD d7, val_kN]
      by_cases h2 : (i0 : Int) ∈ K2
      · simp (config := {decide := true}) only [h2, Option.isSome_some, w_run, w_geXI, w_geXP, w_lz, w_op, w_isi, Dg.wipeU, w_powI, w_intB, w_sl, w_oNone, w_oSome, w_slT, w_slF, w_ixF, w_lenF, w_abs, w_max2, w_min2, w_fdivI, w_neg, w_andE, w_orE, w_notE, w_chain, w_c, w_var, w_call, w_def, w_anil, w_acons, w_tup, w_lst, w_int, w_intB, w_lenT, w_addI, w_subI, w_modI, w_mulI, w_ltI, w_leI, w_gtI, w_geI, w_eq, w_ne, w_ixT, w_if, w_nt, w_an, w_or, w_all, w_tstB, w_tst, w_app, w_lc, w_for, w_iseqT, w_rg1, w_rev1, w_d0, Dg.eq_str, Dg.eq_int, s_seq, s_next, s_brk, s_cnt, s_expr, s_ret, s_retN, s_if, w_getE, w_items, w_keys, w_fmt, w_js0, w_js, s_asg1, s_store, s_tryAs, s_try, w_isX, s_raise, List.map_cons, List.map_nil, List.cons_append, List.nil_append, List.length_cons, List.length_nil, List.replicate_succ, List.replicate_zero, Nat.add_sub_cancel, Nat.sub_self, Nat.sub_zero, Nat.reduceAdd, Nat.reduceSub, Nat.zero_add, List.set_cons_succ, List.set_cons_zero, List.getElem?_cons_zero, List.getElem?_cons_succ, Option.some.injEq, exists_eq_left', exists_eq_left, exists_eq_right', U.bl.injEq, U.int.injEq, U.ref.injEq, U.str.injEq, atI_0, atI_1, atI_2, atI_3, atI_4, atI_5, if_true, if_false, true_and, and_true, decide_true, decide_false, Bool.not_true, Bool.not_false, reduceCtorEq, ite_true, ite_false, decide_eq_true_eq, Bool.true_eq_false, Bool.false_eq_true]
        exact ⟨K2, W2, _, rfl, f3, d6, d7, nd2, in2, sub2, m2, sd2, k2, fun s hs => by rcases List.mem_append.mp hs with h | h; exact t2 s h; simp at h; rw [h]; exact h2, w2⟩
      · simp (config := {decide := true}) only [h2, Option.isSome_none, w_run, w_geXI, w_geXP, w_lz, w_op, w_isi, Dg.wipeU, w_powI, w_intB, w_sl, w_oNone, w_oSome, w_slT, w_slF, w_ixF, w_lenF, w_abs, w_max2, w_min2, w_fdivI, w_neg, w_andE, w_orE, w_notE, w_chain, w_c, w_var, w_call, w_def, w_anil, w_acons, w_tup, w_lst, w_int, w_intB, w_lenT, w_addI, w_subI, w_modI, w_mulI, w_ltI, w_leI, w_gtI, w_geI, w_eq, w_ne, w_ixT, w_if, w_nt, w_an, w_or, w_all, w_tstB, w_tst, w_app, w_lc, w_for, w_iseqT, w_rg1, w_rev1, w_d0, Dg.eq_str, Dg.eq_int, s_seq, s_next, s_brk, s_cnt, s_expr, s_ret, s_retN, s_if, w_getE, w_items, w_keys, w_fmt, w_js0, w_js, s_asg1, s_store, s_tryAs, s_try, w_isX, s_raise, List.map_cons, List.map_nil, List.cons_append, List.nil_append, List.length_cons, List.length_nil, List.replicate_succ, List.replicate_zero, Nat.add_sub_cancel, Nat.sub_self, Nat.sub_zero, Nat.reduceAdd, Nat.reduceSub, Nat.zero_add, List.set_cons_succ, List.set_cons_zero, List.getElem?_cons_zero, List.getElem?_cons_succ, Option.some.injEq, exists_eq_left', exists_eq_left, exists_eq_right', U.bl.injEq, U.int.injEq, U.ref.injEq, U.str.injEq, atI_0, atI_1, atI_2, atI_3, atI_4, atI_5, if_true, if_false, true_and, and_true, decide_true, decide_false, Bool.not_true, Bool.not_false, reduceCtorEq, ite_true, ite_false, decide_eq_true_eq, Bool.true_eq_false, Bool.false_eq_true]
        refine ⟨_, stU_DI d7 (by rw [kN_len]; simp only [lim]; omega), ?_⟩
        rw [put_kN, if_neg h2]
        have d6' := get_set_ne (c := .dct (kN (K2 ++ [(i0 : Int)]))) d6 (show μ.length + 1 ≠ μ.length by omega)
        have d7' := get_set (c := .dct (kN (K2 ++ [(i0 : Int)]))) d7
        have wl : W2.length ≤ 20000 := by
          have := m2; simp at hm; omega
        refine ⟨_, lstU_L d6', ?_⟩
        rw [w_append d6' (by simp only [List.length_map, lim]; omega)]
        have kl : K2.length < n := by
          have h5 : (K2 ++ [(i0 : Int)]).Nodup := by
            rw [List.nodup_append]
            exact ⟨nd2, by simp, fun a ha b hb => by simp at hb; subst hb; exact fun z => h2 (z ▸ ha)⟩
          have := few_in (n := n) h5 fun s hs => by
            rcases List.mem_append.mp hs with h | h
            · exact in2 s h
            · simp at h; subst h; omega
          simp at this; omega
        refine ⟨K2 ++ [(i0 : Int)], W2 ++ [(i0 : Int)], _, rfl, (f3.put (by omega)).put (by omega), ?_, ?_, ?_, ?_, ?_, ?_, ?_, ?_, ?_, ?_⟩
        · rw [get_set d6']; simp
        · exact get_set_ne d7' (by omega)
        · rw [List.nodup_append]
          exact ⟨nd2, by simp, fun a ha b hb => by simp at hb; subst hb; exact fun z => h2 (z ▸ ha)⟩
        · intro s hs
          rcases List.mem_append.mp hs with h | h
          · exact in2 s h
          · simp at h; subst h; omega
        · intro s hs
          rcases List.mem_append.mp hs with h | h
          · exact List.mem_append_left _ (sub2 s h)
          · exact List.mem_append_right _ h
        · simp; omega
        · intro s hs
          rcases List.mem_append.mp hs with h | h
          · exact sd2 s h
          · simp at h; subst h
            obtain ⟨w, hw⟩ := hsound (tn : Int) (hsub _ (by simp))
            refine ⟨a0 :: w, ?_⟩
            rw [lng_cons]
            have : stp R (i0 : Int) a0 = tn := by
              unfold stp
              rw [if_neg (by omega), Int.toNat_natCast, List.getD_eq_getElem?_getD (l := R.getD i0 []), hra]; rfl
            rw [this]; exact hw
        · exact fun s hs => List.mem_append_left _ (k2 s hs)
        · intro s hs
          rcases List.mem_append.mp hs with h | h
          · exact List.mem_append_left _ (t2 s h)
          · exact List.mem_append_right _ h
        · intro s h1 h3
          rcases List.mem_append.mp h1 with h | h
          · exact w2 s h fun z => h3 (List.mem_append_left _ z)
          · exact absurd (List.mem_append_right _ h) h3
    · rintro s' μ3 ⟨K2, W2, x3, rfl, f3, d6, d7, nd2, in2, sub2, m2, sd2, k2, t2, w2⟩
      rw [List.length_map, List.take_length] at t2
      try walk_at "go"
      refine ⟨K2, W2, _, _, rfl, f3, d6, d7, nd2, in2, sub2, by omega, by omega, sd2, fun i hi h => k2 _ (hacc i hi h), fun t h1 h2 s hs => ?_⟩
      obtain ⟨a1, a2⟩ := w2 _ h1 h2
      by_cases e : t = tn
      · subst e; exact t2 s hs
      · exact k2 s (hcl t a1 (fun z => by rcases List.mem_append.mp z with z | z; exact a2 z; simp at z; omega) s hs)
theorem live_s {C : Calls} : LiveS (runDef 10 (b_live_states C)) := by
  constructor
  intro L n R A u ua μ Q E M q
  rw [live_is]
  have fin := fun (μ1 : Mem) (D : Dn) (d : Nat) (src : Nat → List Int) x3 x4 x5 x6 x7 x8 x9 (f : Fr μ μ1) (hd : μ.length ≤ d) (cd : μ1[d]? = some (.lst ((List.range n).map fun t => U.ref (d + 1 + t)))) (S : Srcs n R d μ1 src (fun i a => True) 900000) q => live_end (C := C) (D := D) (x3 := x3) (x4 := x4) (x5 := x5) (x6 := x6) (x7 := x7) (x8 := x8) (x9 := x9) M f hd cd S q
  generalize src7 C = T at fin ⊢
  obtain ⟨us, hu, hul, hrows⟩ := id M.rows
  have hn5 := M.n5
  have hul' : us.length = n := by rw [hul, M.len]
  walk_at "gos"
  refine w_iseqS ?_
  try walk_at "gos"
  refine ⟨us, hu, fun j hj => ?_⟩
  refine lc_fresh us (by omega) (fun s μ => e_nil s μ) (fun μ' f i => hj μ' (seq_fr hu f) i) fun μ1 f1 l1 cd cz => ?_
  rw [hul'] at cd cz l1
  try walk_at "gos"
  refine w_enumB (u := u) (us := us) rfl (seq_fr hu f1) M.nf fun j2 hj2 => ?_
  have nl := M.nl
  refine for_it (us.mapIdx fun i w => U.tup [.int (i : Nat), w]) (fun i s' μ' => ∃ (src : Nat → List Int) (x3 x4 x5 : Option U), s' = [some u, some ua, some (.ref μ.length), x3, x4, x5, none, none, none, none] ∧ Fr μ μ' ∧ μ'[μ.length]? = some (.lst ((List.range n).map fun t => U.ref (μ.length + 1 + t))) ∧ Srcs n R μ.length μ' src (fun i' a => i' < i) (i * L)) (by simp; omega)
    ⟨fun _ => [], _, _, _, rfl, f1, cd, ⟨fun t ht => by simpa using cz t ht, fun t ht s => by simp, fun t => by simp⟩⟩ (fun i s' μ' ⟨_, _, _, _, _, f, _⟩ => hj2 μ' (seq_fr hu f) i) ?_ ?_
  · rintro i s' μ' hi ⟨src, x3, x4, x5, rfl, f, cd, S⟩
    have hi' : i < n := by simpa [hul'] using hi
    have hiR : i < R.length := by rw [M.len]; exact hi'
    rw [List.getElem_mapIdx]
    have hw := hrows i us[i] R[i] (List.getElem?_eq_getElem (by omega)) (List.getElem?_eq_getElem hiR)
    obtain ⟨hrl, hrt⟩ := M.wf.row _ (List.getElem_mem hiR)
    have gR : R.getD i [] = R[i] := by rw [List.getD_eq_getElem?_getD, List.getElem?_eq_getElem hiR]; rfl
    generalize us[i] = w at hw
    refine ⟨[some u, some ua, some (.ref μ.length), some (.int (i : Nat)), some w, x5, none, none, none, none], rfl, ?_⟩
    walk_at "gos"
    refine w_iseqS ?_
    try walk_at "gos"
    refine ⟨_, seq_fr hw f, fun j3 hj3 => ?_⟩
    refine for_it (R[i].map U.int) (fun k s' μ' => ∃ (src : Nat → List Int) (x5 : Option U), s' = [some u, some ua, some (.ref μ.length), some (.int (i : Nat)), some w, x5, none, none, none, none] ∧ Fr μ μ' ∧ μ'[μ.length]? = some (.lst ((List.range n).map fun t => U.ref (μ.length + 1 + t))) ∧ Srcs n R μ.length μ' src (fun i' a => i' < i ∨ (i' = i ∧ a < k)) (i * L + k)) (by simp; have := M.l1; omega)
      ⟨src, _, rfl, f, cd, ⟨S.cell, fun t ht s => by simpa using S.mem t ht s, fun t => by simpa using S.len t⟩⟩ (fun k s' μ' ⟨_, _, _, f, _⟩ => hj3 μ' (seq_fr hw f) k) ?_ ?_
    · rintro k s' μ2 hk ⟨src, x5, rfl, f, cd, S⟩
      have hk' : k < R[i].length := by simpa using hk
      rw [List.getElem_map]
      refine ⟨_, rfl, ?_⟩
      have ht := hrt _ (List.getElem_mem hk')
      have hget : R[i][k]? = some R[i][k] := List.getElem?_eq_getElem hk'
      generalize R[i][k] = tt at ht hget
      walk_at "gos"
      by_cases h1 : tt = -1
      · subst h1
        walk_at "go"
        refine ⟨src, _, rfl, f, cd, ⟨S.cell, fun t ht s => ?_, fun t => by have := S.len t; omega⟩⟩
        rw [S.mem t ht]
        constructor
        · rintro ⟨a, b, e1, e2, e3, e4⟩
          exact ⟨a, b, e1, e2, by omega, e4⟩
        · rintro ⟨a, b, e1, e2, e3, e4⟩
          refine ⟨a, b, e1, e2, ?_, e4⟩
          rcases e3 with e3 | ⟨e3, e5⟩
          · exact .inl e3
          · refine .inr ⟨e3, ?_⟩
            by_cases hb : b = k
            · subst hb e3
              rw [gR, hget] at e4
              have := Option.some.inj e4
              omega
            · omega
      · obtain ⟨t, rfl⟩ := Int.eq_ofNat_of_zero_le (a := tt) (by omega)
        have htn : t < n := by have := M.len; omega
        simp (config := {decide := true}) only [h1, w_run, w_geXI, w_geXP, w_lz, w_op, w_isi, Dg.wipeU, w_powI, w_intB, w_sl, w_oNone, w_oSome, w_slT, w_slF, w_ixF, w_lenF, w_abs, w_max2, w_min2, w_fdivI, w_neg, w_andE, w_orE, w_notE, w_chain, w_c, w_var, w_call, w_def, w_anil, w_acons, w_tup, w_lst, w_int, w_intB, w_lenT, w_addI, w_subI, w_modI, w_mulI, w_ltI, w_leI, w_gtI, w_geI, w_eq, w_ne, w_ixT, w_if, w_nt, w_an, w_or, w_all, w_tstB, w_tst, w_app, w_lc, w_for, w_iseqT, w_rg1, w_rev1, w_d0, Dg.eq_str, Dg.eq_int, s_seq, s_next, s_brk, s_cnt, s_expr, s_ret, s_retN, s_if, w_getE, w_items, w_keys, w_fmt, w_js0, w_js, s_asg1, s_store, s_tryAs, s_try, w_isX, s_raise, List.map_cons, List.map_nil, List.cons_append, List.nil_append, List.length_cons, List.length_nil, List.replicate_succ, List.replicate_zero, Nat.add_sub_cancel, Nat.sub_self, Nat.sub_zero, Nat.reduceAdd, Nat.reduceSub, Nat.zero_add, List.set_cons_succ, List.set_cons_zero, List.getElem?_cons_zero, List.getElem?_cons_succ, Option.some.injEq, exists_eq_left', exists_eq_left, exists_eq_right', U.bl.injEq, U.int.injEq, U.ref.injEq, U.str.injEq, atI_0, atI_1, atI_2, atI_3, atI_4, atI_5, if_true, if_false, true_and, and_true, decide_true, decide_false, Bool.not_true, Bool.not_false, reduceCtorEq, ite_true, ite_false, decide_eq_true_eq, Bool.true_eq_false, Bool.false_eq_true]
        rw [w_ixL cd, Dg.atI_nat, List.getElem?_map, List.getElem?_range htn]
        refine ⟨_, rfl, ?_⟩
        have ct := S.cell t htn
        have lt := S.len t
        have mono : i * L + k < 900000 := by
          have h5 : (i + 1) * L ≤ n * L := Nat.mul_le_mul_right L hi'
          rw [Nat.add_mul] at h5
          omega
        refine ⟨_, lstU_L ct, ?_⟩
        rw [w_append ct (by simp only [List.length_map, lim]; omega)]
        refine ⟨fun t' => if t' = t then src t ++ [(i : Int)] else src t', _, rfl, f.put (by omega), get_set_ne cd (by omega), ⟨fun t' ht' => ?_, fun t' ht' s => ?_, fun t' => ?_⟩⟩
        · by_cases e : t' = t
          · subst e
            rw [get_set ct, if_pos rfl]; simp
          · rw [get_set_ne (S.cell t' ht') (by omega), if_neg e]
        · by_cases e : t' = t
          · subst e
            rw [if_pos rfl, List.mem_append, S.mem t' ht']
            constructor
            · rintro (⟨a, b, e1, e2, e3, e4⟩ | h)
              · exact ⟨a, b, e1, e2, by omega, e4⟩
              · simp at h; subst h
                exact ⟨i, k, rfl, hi', .inr ⟨rfl, by omega⟩, by rw [gR]; exact hget⟩
            · rintro ⟨a, b, e1, e2, e3, e4⟩
              by_cases hb : a = i ∧ b = k
              · exact .inr (by rw [e1, hb.1]; simp)
              · exact .inl ⟨a, b, e1, e2, by omega, e4⟩
          · rw [if_neg e, S.mem t' ht']
            constructor
            · rintro ⟨a, b, e1, e2, e3, e4⟩
              exact ⟨a, b, e1, e2, by omega, e4⟩
            · rintro ⟨a, b, e1, e2, e3, e4⟩
              refine ⟨a, b, e1, e2, ?_, e4⟩
              by_cases hb : a = i ∧ b = k
              · obtain ⟨rfl, rfl⟩ := hb
                rw [gR, hget] at e4
                have := Option.some.inj e4
                omega
              · omega
        · have := S.len t'
          split
          · simp; omega
          · omega
    · rintro s' μ2 ⟨src, x5, rfl, f, cd, S⟩
      rw [List.length_map] at S
      try walk_at "gos"
      refine ⟨src, _, _, _, rfl, f, cd, ⟨S.cell, fun t ht s => ?_, fun t => by have := S.len t; rw [Nat.add_mul]; omega⟩⟩
      rw [S.mem t ht]
      constructor
      · rintro ⟨a, b, e1, e2, e3, e4⟩
        exact ⟨a, b, e1, e2, by omega, e4⟩
      · rintro ⟨a, b, e1, e2, e3, e4⟩
        refine ⟨a, b, e1, e2, ?_, e4⟩
        by_cases ha : a < i
        · exact .inl ha
        · have : a = i := by omega
          subst this
          rw [gR] at e4
          exact .inr ⟨rfl, (List.getElem?_eq_some_iff.mp e4).1⟩
  · rintro s' μ2 ⟨src, x3, x4, x5, rfl, f, cd, S⟩
    rw [List.length_mapIdx, hul'] at S
    refine fin _ _ μ.length src _ _ _ _ _ _ _ f (Nat.le_refl _) cd ⟨S.cell, fun t ht s => ?_, fun t => by have := S.len t; omega⟩ q
    rw [S.mem t ht]
    exact ⟨fun ⟨a, b, e1, e2, _, e4⟩ => ⟨a, b, e1, e2, trivial, e4⟩, fun ⟨a, b, e1, e2, _, e4⟩ => ⟨a, b, e1, e2, e2, e4⟩⟩
end Le
namespace Le
/-- the machine over what is kept -/
def keptR (R : List (List Int)) (K : List Int) : List (List Int) := K.map fun s => (R.getD s.toNat []).map fun t => if t ∈ K then (K.idxOf t : Int) else -1
def keptA (A : List Bool) (K : List Int) : List Bool := K.map fun s => end_ A s
theorem kept_wf {L : Nat} {R : List (List Int)} {A : List Bool} {K : List Int} (wf : Wf L R A) (hK : ∀ s ∈ K, 0 ≤ s ∧ s < R.length) : Wf L (keptR R K) (keptA A K) := by
  refine ⟨by simp [keptR, keptA], fun r hr => ?_⟩
  obtain ⟨s, hs, rfl⟩ := List.mem_map.mp hr
  obtain ⟨a, b⟩ := hK s hs
  obtain ⟨h1, h2⟩ := wf.row _ (getD_in a b)
  refine ⟨by rw [List.length_map]; exact h1, fun t ht => ?_⟩
  obtain ⟨t', _, rfl⟩ := List.mem_map.mp ht
  have hl : (keptR R K).length = K.length := by simp [keptR]
  rw [hl]
  split
  · rename_i h
    have := List.idxOf_lt_length_of_mem h
    omega
  · omega
theorem stp_get {R : List (List Int)} {s : Int} {a : Nat} (h0 : 0 ≤ s) : stp R s a = (R.getD s.toNat []).getD a (-1) := by unfold stp; rw [if_neg (by omega)]
theorem kept_lng {L : Nat} {R : List (List Int)} {A : List Bool} {K : List Int} (wf : Wf L R A) (hK : ∀ s ∈ K, 0 ≤ s ∧ s < R.length) (nd : K.Nodup) (cl : ∀ s ∈ K, ∀ a, (∃ w, lng R A (stp R s a) w = true) → stp R s a ∈ K) :
    ∀ (w : List Nat) (i : Nat) (h : i < K.length), lng (keptR R K) (keptA A K) i w = lng R A K[i] w := by
  have wf' := kept_wf wf hK
  intro w
  induction w with
  | nil =>
    intro i h
    rw [lng_nil, lng_nil]
    rw [show end_ (keptA A K) (i : Int) = (keptA A K).getD i false by unfold end_; rw [if_neg (by omega), Int.toNat_natCast], List.getD_eq_getElem?_getD]
    unfold keptA
    rw [List.getElem?_map, List.getElem?_eq_getElem h]
    rfl
  | cons a w ih =>
    intro i h
    rw [lng_cons, lng_cons]
    have hk := List.getElem_mem h
    obtain ⟨b1, b2⟩ := hK _ hk
    have e : stp (keptR R K) (i : Int) a = if stp R K[i] a ∈ K then (K.idxOf (stp R K[i] a) : Int) else -1 := by
      rw [stp_get (by omega), Int.toNat_natCast, List.getD_eq_getElem?_getD (l := keptR R K), stp_get b1]
      unfold keptR
      rw [List.getElem?_map, List.getElem?_eq_getElem h]
      simp only [Option.map_some, Option.getD_some]
      rw [List.getD_eq_getElem?_getD, List.getElem?_map, List.getD_eq_getElem?_getD (a := (-1 : Int))]
      cases e : (R.getD K[i].toNat [])[a]? with
      | none =>
        simp only [Option.map_none, Option.getD_none]
        rw [if_neg fun z => by have := (hK _ z).1; omega]
      | some t => rfl
    rw [e]
    by_cases hm : stp R K[i] a ∈ K
    · rw [if_pos hm]
      have hi := List.idxOf_lt_length_of_mem hm
      rw [ih _ hi, List.getElem_idxOf hi]
    · rw [if_neg hm, lng_neg (by decide)]
      cases hb : lng R A (stp R K[i] a) w with
      | false => rfl
      | true => exact absurd (cl _ hk a ⟨w, hb⟩) hm
structure TrimS (g : List U → Mem → Res U) : Prop where
  ap : ∀ {L n : Nat} {R : List (List Int)} {A : List Bool} {u ua : U} {μ : Mem} {Q : U → Mem → Prop} {E : Str → Mem → Prop}, McU L n μ u ua R A →
    (∀ (R' : List (List Int)) (A' : List Bool) (r1 r2 : Nat) μ', Fr μ μ' → McU L R'.length μ' (.ref r1) (.ref r2) R' A' → R'.length ≤ n → (∀ i : Nat, i < R'.length → ∃ w, lng R' A' i w = true) → (∀ w, lng R' A' 0 w = lng R A 0 w) → (∀ (us : List U) (i : Nat) (w : U), seqU μ' (.ref r1) = some us → us[i]? = some w → ∃ r, w = U.ref r) → Q (.tup [.ref r1, .ref r2]) μ') → wpE (g [u, ua] μ) Q E
def kvK (K : List Int) : List (Key × U) := K.mapIdx fun i s => (.inl s, .int (i : Nat))
theorem val_kvK {t : Int} {K : List Int} (nd : K.Nodup) : valU (kvK K) (.inl t) = if t ∈ K then some (.int (K.idxOf t : Nat)) else none := by
  unfold kvK valU
  have main : ∀ (l : List Int) (b : Nat), ((l.mapIdx fun i s => ((.inl s : Key), U.int ((i + b : Nat) : Int))).find? fun kv => decide (kv.1 = .inl t)).map (·.2) = if t ∈ l then some (.int ((l.idxOf t + b : Nat) : Int)) else none := by
    intro l
    induction l with
    | nil => intro b; rfl
    | cons x l ih =>
      intro b
      rw [List.mapIdx_cons, List.find?_cons]
      by_cases h : x = t
      · subst h; simp
      · have h' : ¬ (Sum.inl x : Key) = Sum.inl t := fun e => h (by injection e)
        simp only [h', decide_false]
        have := ih (b + 1)
        rw [show (fun (i : Nat) (s : Int) => ((.inl s : Key), U.int ((i + 1 + b : Nat) : Int))) = fun i s => (.inl s, U.int ((i + (b + 1) : Nat) : Int)) by funext i s; rw [Nat.add_assoc, Nat.add_comm 1 b]]
        rw [this]
        have hm : (t ∈ x :: l) = (t ∈ l) := by simp [Ne.symm h]
        simp only [hm]
        by_cases hl : t ∈ l
        · rw [if_pos hl, if_pos hl, List.idxOf_cons, show (x == t) = false by simpa using h]
          simp; omega
        · rw [if_neg hl, if_neg hl]
  simpa using main K 0
theorem trim_s {C : Calls} (h0 : MetS (C 0)) (h1 : LiveS (C 1)) : TrimS (runDef 9 (b_trimmed C)) := by
  constructor
  intro L n R A u ua μ Q E M q
  unfold b_trimmed
  have hn5 := M.n5
  have hRl := M.len
  walk_at "gos"
  refine h1.ap M fun K r2 μ1 f1 lr2 c2 kin knd kiff => ?_
  try walk_at "gos"
  rw [w_ninD c2, val_kN]
  by_cases hz : (0 : Int) ∈ K
  · simp only [hz, if_true, Option.isSome_some, Bool.not_true]
    walk_at "gos"
    have hn0 := (kin 0 hz).2
    refine w_iseqS ?_
    try walk_at "gos"
    refine h0.ap (n := n) (R := R) (M.rows.fr f1) M.len M.n5 (fun r hr => ⟨by rw [(M.wf.row r hr).1]; exact M.l1, fun t ht => by have := (M.wf.row r hr).2 t ht; omega⟩) (by omega) (by omega) fun F ess r3 μ2 f2 lr3 c3 hF hlen hlt hes hin hnd => ?_
    have f12 := f1.trans f2
    have c22 := f2.at_ _ _ c2
    have fewF := few_in hnd hin
    refine ⟨_, seq_Ls c3, fun j hj => ?_⟩
    refine lc_fm F U.int (fun s => decide (s ∈ K)) U.int (by omega) (fun i acc => hj _ (seq_Ls (get_snoc_lt c3)) i) (fun x hx acc => ?_) ?_
    · refine ⟨_, rfl, ?_⟩
      walk_at "gos"
      rw [w_inD (get_snoc_lt c22), val_kN]
      refine ⟨_, rfl, ?_, rfl, fun _ => ?_⟩
      · by_cases h : x ∈ K
        · simp [h]
        · simp [h]
      · walk_at "gos"
    generalize hKP : F.filter (fun s => decide (s ∈ K)) = KP
    have hmem : ∀ s, s ∈ KP ↔ s ∈ F ∧ s ∈ K := fun s => by rw [← hKP, List.mem_filter]; simp
    have kpnd : KP.Nodup := by rw [← hKP]; exact hnd.filter _
    have kpin : ∀ s ∈ KP, 0 ≤ s ∧ s < n := fun s hs => hin s ((hmem s).mp hs).1
    have kplen := few_in kpnd kpin
    have hd : ∃ g, KP = 0 :: g := by
      obtain ⟨g, hg⟩ := run_ext ess [0]
      rw [← hF] at hg
      exact ⟨g.filter (fun s => decide (s ∈ K)), by rw [← hKP, hg]; simp [hz]⟩
    have cl : ∀ s ∈ KP, ∀ a, (∃ w, lng R A (stp R s a) w = true) → stp R s a ∈ KP := by
      rintro s hs a ⟨w, hw⟩
      obtain ⟨hsF, hsK⟩ := (hmem s).mp hs
      have b := M.wf.stp_in (s := s) (a := a)
      by_cases hneg : stp R s a < 0
      · rw [lng_neg hneg] at hw; cases hw
      · refine (hmem _).mpr ⟨?_, (kiff _ (by omega) (by omega)).mpr ⟨w, hw⟩⟩
        obtain ⟨j, hj2⟩ := List.getElem?_of_mem hsF
        have he := hes j s hj2
        have hjl := (List.getElem?_eq_some_iff.mp he).1
        have hin2 : stp R s a ∈ R.getD s.toNat [] := by
          rw [stp_get (hin s hsF).1] at hneg ⊢
          rw [List.getD_eq_getElem?_getD (a := (-1 : Int))] at hneg ⊢
          cases e : (R.getD s.toNat [])[a]? with
          | none => rw [e] at hneg; simp at hneg
          | some t => exact List.mem_of_getElem? e
        have key : ∀ (es : List (List Int)) (f0 : List Int) (x : Int), x ≠ -1 → (∃ r ∈ es, x ∈ r) → x ∈ run f0 es := by
          intro es
          induction es with
          | nil => rintro f0 x _ ⟨r, h, _⟩; simp at h
          | cons e es ih =>
            rintro f0 x hx ⟨r, hr, hxr⟩
            show x ∈ run (addR f0 e) es
            rcases List.mem_cons.mp hr with rfl | hr
            · obtain ⟨g, hg⟩ := run_ext es (addR f0 r)
              rw [hg]
              exact List.mem_append_left _ ((addR_mem r).mpr (.inr ⟨hxr, hx⟩))
            · exact ih _ x hx ⟨r, hr, hxr⟩
        rw [hF]
        exact key ess [0] _ (by omega) ⟨_, List.mem_of_getElem? he, hin2⟩
    have c5 : (μ2 ++ [Cell.lst (KP.map U.int)])[μ2.length]? = some (.lst (KP.map U.int)) := get_snoc
    have f3 : Fr μ2 (μ2 ++ [Cell.lst (KP.map U.int)]) := Fr.refl.snoc
    generalize hr5 : μ2.length = r5 at c5 ⊢
    generalize (μ2 ++ [Cell.lst (KP.map U.int)]) = μ3 at c5 f3
    try walk_at "gos"
    rw [w_dcK]
    rw [w_enum]
    walk_at "gos"
    refine ⟨_, listAt_L c5, ?_⟩
    refine dk_fm KP (fun i s => U.tup [.int (i : Nat), .int s]) (fun s => s) (fun i s => .int (i : Nat)) (by omega) (by simpa using kpnd) (fun i acc => by rw [item_enum (get_snoc_lt c5), List.getElem?_mapIdx, List.getElem?_map]; cases KP[i]? <;> rfl) (fun i hi acc => ?_) ?_
    · refine ⟨[some u, some ua, some (.ref r2), some (.ref r5), none, none, some (.int KP[i]), some (.int (i : Nat)), none], rfl, ?_⟩
      walk_at "gos"
    have c6 : (μ3 ++ [Cell.dct (kvK KP)])[μ3.length]? = some (.dct (kvK KP)) := get_snoc
    have c5' := get_snoc_lt (c := Cell.dct (kvK KP)) c5
    have f4 : Fr μ3 (μ3 ++ [Cell.dct (kvK KP)]) := Fr.refl.snoc
    rw [show (KP.mapIdx fun i x => ((Sum.inl x : Key), U.int ((i : Nat) : Int))) = kvK KP from rfl]
    generalize hr6 : μ3.length = r6 at c6 ⊢
    generalize (μ3 ++ [Cell.dct (kvK KP)]) = μ4 at c6 c5' f4
    have fA : Fr μ μ4 := ((f12.trans f3).trans f4)
    try walk_at "gos"
    refine w_iseqS ?_
    try walk_at "gos"
    refine ⟨_, seq_Ls c5', fun j5 hj5 => ?_⟩
    refine lc_new (KP.map U.int) (fun i => .lst (((keptR R KP).getD i []).map U.int)) (by simp; omega) (fun μ' f i => hj5 μ' (seq_Ls (f.at_ _ _ c5')) i) (fun i hi μ5 f5 => ?_) fun μ6 f6 l6 cd6 cz6 => ?_
    · have hi' : i < KP.length := by simpa using hi
      rw [List.getElem_map]
      refine ⟨_, rfl, ?_⟩
      walk_at "gos"
      have b := kpin _ (List.getElem_mem hi')
      refine w_iseqS ?_
      walk_at "gos"
      refine rd_row0 M.rows (fA.trans f5) b.1 (by omega) fun w hw => ?_
      refine ⟨_, seq_fr hw (fA.trans f5), fun j6 hj6 => ?_⟩
      have hrow := M.wf.row _ (getD_in (R := R) b.1 (by omega))
      refine lc_fm (R.getD KP[i].toNat []) U.int (fun _ => true) (fun t => .int (if t ∈ KP then (KP.idxOf t : Int) else -1)) (by have := M.l1; omega) (fun k acc => hj6 _ (seq_fr hw ((fA.trans f5).snoc)) k) (fun x hx acc => ?_) ?_
      · refine ⟨_, rfl, ?_⟩
        walk_at "gos"
        intro _
        have c66 := get_snoc_lt (c := Cell.lst acc) (f5.at_ _ _ c6)
        refine ⟨⟨_, rd_D c66⟩, _, _, rd_D c66, rfl, ?_⟩
        rw [val_kvK kpnd]
        split <;> rfl
      · refine ⟨rfl, ?_⟩
        congr 3
        rw [show (fun _ : Int => true) = (fun _ => true) from rfl, List.filter_eq_self.mpr (fun _ _ => rfl)]
        have e : (keptR R KP).getD i [] = (R.getD KP[i].toNat []).map fun t => if t ∈ KP then (KP.idxOf t : Int) else -1 := by
          unfold keptR
          rw [List.getD_eq_getElem?_getD, List.getElem?_map, List.getElem?_eq_getElem hi']
          rfl
        rw [e, List.map_map]
        rfl
    try walk_at "gos"
    refine w_iseqS ?_
    try walk_at "gos"
    refine ⟨_, seq_Ls (f6.at_ _ _ c5'), fun j7 hj7 => ?_⟩
    refine lc_fm KP U.int (fun _ => true) (fun s => .bl (end_ A s)) (by omega) (fun k acc => hj7 _ (seq_Ls (get_snoc_lt (f6.at_ _ _ c5'))) k) (fun x hx acc => ?_) ?_
    · refine ⟨_, rfl, ?_⟩
      walk_at "gos"
      intro _
      have b := kpin x hx
      rw [w_ixS (seq_fr M.acc (((fA.trans f6).snoc)))]
      obtain ⟨i, rfl⟩ := Int.eq_ofNat_of_zero_le b.1
      have hA : i < A.length := by rw [M.wf.ac]; omega
      rw [Dg.atI_nat, List.getElem?_map, List.getElem?_eq_getElem hA]
      refine ⟨_, rfl, ?_, rfl⟩
      unfold end_
      rw [if_neg (by omega), Int.toNat_natCast, List.getD_eq_getElem?_getD, List.getElem?_eq_getElem hA]
      rfl
    · rw [List.filter_eq_self.mpr (fun _ _ => rfl)]
      have kpin' : ∀ s ∈ KP, 0 ≤ s ∧ s < R.length := fun s hs => by have := kpin s hs; omega
      have hkl : (keptR R KP).length = KP.length := by simp [keptR]
      have wf' := kept_wf M.wf kpin'
      have cd6' := get_snoc_lt (c := Cell.lst (KP.map fun s => U.bl (end_ A s))) cd6
      have lng' := kept_lng M.wf kpin' kpnd cl
      rw [List.length_map] at cd6' cz6
      refine q (keptR R KP) (keptA A KP) _ _ _ ((fA.trans f6).snoc) ⟨⟨_, seq_Ls cd6', by simp [keptR], fun i w r hw hr => ?_⟩, ?_, wf', rfl, by omega, M.l1, ?_, fun xs h => nomatch h⟩ (by omega) (fun i hi => ?_) (fun w => ?_) (fun us i w h1 h2 => by
        rw [seq_Ls cd6'] at h1
        cases h1
        rw [List.getElem?_map] at h2
        cases e : (List.range KP.length)[i]? with
        | none => rw [e] at h2; cases h2
        | some v => rw [e] at h2; cases h2; exact ⟨_, rfl⟩)
      · have hi := (List.getElem?_eq_some_iff.mp hr).1
        rw [List.getElem?_map, List.getElem?_range (by omega)] at hw
        cases hw
        refine seq_Ls ?_
        refine get_snoc_lt ?_
        have := cz6 i (by omega)
        rw [List.getD_eq_getElem?_getD, hr] at this
        exact this
      · refine seq_Ls ?_
        rw [get_snoc]
        simp [keptA, List.map_map, Function.comp]
      · have := M.nl
        exact Nat.le_trans (Nat.mul_le_mul_right L (by omega)) this
      · have hi' : i < KP.length := by omega
        obtain ⟨w, hw⟩ := (kiff KP[i] (kpin _ (List.getElem_mem hi')).1 (kpin _ (List.getElem_mem hi')).2).mp ((hmem _).mp (List.getElem_mem hi')).2
        exact ⟨w, by rw [lng' w i hi']; exact hw⟩
      · obtain ⟨g, hg⟩ := hd
        have h0' : 0 < KP.length := by rw [hg]; simp
        have := lng' w 0 h0'
        rw [show ((0 : Nat) : Int) = 0 from rfl] at this
        rw [this]
        congr 1
        simp [hg]
  · simp (config := {decide := true}) only [hz, Option.isSome_none, w_run, w_geXI, w_geXP, w_lz, w_op, w_isi, Dg.wipeU, w_powI, w_intB, w_sl, w_oNone, w_oSome, w_slT, w_slF, w_ixF, w_lenF, w_abs, w_max2, w_min2, w_fdivI, w_neg, w_andE, w_orE, w_notE, w_chain, w_c, w_var, w_call, w_def, w_anil, w_acons, w_tup, w_lst, w_int, w_intB, w_lenT, w_addI, w_subI, w_modI, w_mulI, w_ltI, w_leI, w_gtI, w_geI, w_eq, w_ne, w_ixT, w_if, w_nt, w_an, w_or, w_all, w_tstB, w_tst, w_app, w_lc, w_for, w_iseqT, w_rg1, w_rev1, w_d0, Dg.eq_str, Dg.eq_int, s_seq, s_next, s_brk, s_cnt, s_expr, s_ret, s_retN, s_if, w_getE, w_items, w_keys, w_fmt, w_js0, w_js, s_asg1, s_store, s_tryAs, s_try, w_isX, s_raise, List.map_cons, List.map_nil, List.cons_append, List.nil_append, List.length_cons, List.length_nil, List.replicate_succ, List.replicate_zero, Nat.add_sub_cancel, Nat.sub_self, Nat.sub_zero, Nat.reduceAdd, Nat.reduceSub, Nat.zero_add, List.set_cons_succ, List.set_cons_zero, List.getElem?_cons_zero, List.getElem?_cons_succ, Option.some.injEq, exists_eq_left', exists_eq_left, exists_eq_right', U.bl.injEq, U.int.injEq, U.ref.injEq, U.str.injEq, atI_0, atI_1, atI_2, atI_3, atI_4, atI_5, if_true, if_false, true_and, and_true, decide_true, decide_false, Bool.not_true, Bool.not_false, reduceCtorEq, ite_true, ite_false, decide_eq_true_eq, Bool.true_eq_false, Bool.false_eq_true]
    have e1 : (μ1 ++ [Cell.lst []] ++ [Cell.lst []])[μ1.length]? = some (.lst ([] : List U)) := get_snoc_lt get_snoc
    have e2 : (μ1 ++ [Cell.lst []] ++ [Cell.lst []])[(μ1 ++ [Cell.lst []]).length]? = some (.lst ([] : List U)) := get_snoc
    refine q [] [] _ _ _ (f1.snoc.snoc) ⟨⟨[], seq_Ls e1, rfl, fun i w r h => by simp at h⟩, seq_Ls e2, ⟨rfl, fun r h => by simp at h⟩, rfl, by simp, M.l1, by simp, fun xs h => nomatch h⟩ (by simp) (fun i h => by simp at h) (fun w => ?_) (fun us i w h1 h2 => by rw [seq_Ls e1] at h1; cases h1; simp at h2)
    have : lng R A 0 w = false := by
      cases h : lng R A 0 w with
      | false => rfl
      | true =>
        by_cases hn0 : 0 < n
        · exact absurd ((kiff 0 (by omega) (by omega)).mpr ⟨w, h⟩) hz
        · have : R = [] := List.length_eq_zero_iff.mp (by omega)
          have hA := M.wf.ac
          subst this
          have : A = [] := List.length_eq_zero_iff.mp (by simpa using hA)
          subst this
          cases w with
          | nil => cases h
          | cons a w => rw [lng_cons, lng_neg (by simp [stp])] at h; cases h
    rw [this]
    cases w with
    | nil => rfl
    | cons a w => rw [lng_cons]; exact lng_neg (by simp [stp]) w
end Le
namespace Le
def bkC (rb rm rp : Nat) : Cell := .obj "Blocks" [("block_of", .ref rb), ("members", .ref rm), ("pending", .ref rp)]
structure BkU (o rb rm rp : Nat) (ds : List Nat) (μ : Mem) (S : St) : Prop where
  ob : μ[o]? = some (bkC rb rm rp)
  cb : μ[rb]? = some (.lst ((iN S.bo).map U.int))
  cm : μ[rm]? = some (.lst (ds.map U.ref))
  cp : μ[rp]? = some (.lst ((iN S.pd).map U.int))
  dl : ds.length = S.ms.length
  cd : ∀ (i : Nat) (l : List Nat) (d : Nat), S.ms[i]? = some l → ds[i]? = some d → μ[d]? = some (.dct (kN (iN l)))
  nd : (o :: rb :: rm :: rp :: ds).Nodup
def FrX (X : List Nat) (μ μ' : Mem) : Prop := μ.length ≤ μ'.length ∧ ∀ (i : Nat) (c : Cell), i ∉ X → μ[i]? = some c → μ'[i]? = some c
theorem FrX.refl {X : List Nat} {μ : Mem} : FrX X μ μ := ⟨Nat.le_refl _, fun _ _ _ h => h⟩
theorem FrX.put {X : List Nat} {μ μ' : Mem} {i : Nat} {c : Cell} (f : FrX X μ μ') (h : i ∈ X ∨ μ.length ≤ i) : FrX X μ (μ'.set i c) := ⟨by simpa using f.1, fun j d hj e => get_set_ne (f.2 j d hj e) (fun z => by
  subst z
  rcases h with h | h
  · exact hj h
  · have := get_lt e; omega)⟩
theorem FrX.snoc {X : List Nat} {μ μ' : Mem} {c : Cell} (f : FrX X μ μ') : FrX X μ (μ' ++ [c]) := ⟨by have := f.1; simp; omega, fun j d hj e => get_snoc_lt (f.2 j d hj e)⟩
section
variable {s : Slots} {μ : Mem} {i o rb rm rp : Nat} {ds : List Nat} {S : St} {Q : U → Mem → Prop} {E : Str → Mem → Prop}
theorem q_bo (e : s[i]? = some (some (.ref o))) (c : μ[o]? = some (bkC rb rm rp)) (q : Q (.ref rb) μ) : wpE (fFld "Blocks" "block_of" (fVar i) s μ) Q E := by
  rw [w_fld, w_var]
  exact ⟨_, e, _, isO_is c, _, rfl, q⟩
theorem q_me (e : s[i]? = some (some (.ref o))) (c : μ[o]? = some (bkC rb rm rp)) (q : Q (.ref rm) μ) : wpE (fFld "Blocks" "members" (fVar i) s μ) Q E := by
  rw [w_fld, w_var]
  exact ⟨_, e, _, isO_is c, _, rfl, q⟩
theorem q_pe (e : s[i]? = some (some (.ref o))) (c : μ[o]? = some (bkC rb rm rp)) (q : Q (.ref rp) μ) : wpE (fFld "Blocks" "pending" (fVar i) s μ) Q E := by
  rw [w_fld, w_var]
  exact ⟨_, e, _, isO_is c, _, rfl, q⟩
end
theorem iN_len {l : List Nat} : (iN l).length = l.length := by simp [iN]
theorem iN_map {l : List Nat} : (iN l).map U.int = l.map fun k => U.int ((k : Nat) : Int) := by unfold iN; rw [List.map_map]; rfl
theorem iN_filter {l : List Nat} {k : Nat} : (iN l).filter (fun x => decide (x ≠ (k : Int))) = iN (l.filter fun x => decide (x ≠ k)) := by
  unfold iN
  rw [List.filter_map]
  congr 1
  refine List.filter_congr fun x _ => ?_
  simp only [Function.comp]
  by_cases h : x = k
  · simp [h]
  · have : ¬ ((x : Nat) : Int) = k := by omega
    simp [h, this]
structure MoveS (g : List U → Mem → Res U) : Prop where
  ap : ∀ {n o rb rm rp b rs : Nat} {ds P l : List Nat} {S : St} {μ : Mem} {Q : U → Mem → Prop} {E : Str → Mem → Prop}, BkU o rb rm rp ds μ S → S.ok n → n ≤ 5000 → S.pd.length ≤ 10000 → S.ms[b]? = some l → P.Nodup → (∀ s ∈ P, s ∈ l) →
    rs ∉ (o :: rb :: rm :: rp :: ds) → μ[rs]? = some (.lst ((iN P).map U.int)) → (∀ μ', BkU o rb rm rp (ds ++ [μ.length]) μ' (S.mv P b) → FrX (o :: rb :: rm :: rp :: ds) μ μ' → μ'.length = μ.length + 1 → Q .non μ') → wpE (g [.ref o, .ref rs, .int (b : Nat)] μ) Q E
theorem move_s {C : Calls} : MoveS (runDef 4 (b_Blocks_move_out C)) := by
  constructor
  intro n o rb rm rp b rs ds P l S μ Q E B ok hn hpd hl ndP sub hrs crs q
  have ndX := B.nd
  simp only [List.nodup_cons, List.mem_cons, not_or] at ndX
  obtain ⟨⟨n1, n2, n3, n4⟩, ⟨n5, n6, n7⟩, ⟨n8, n9⟩, n10, n11⟩ := ndX
  simp only [List.mem_cons, not_or] at hrs
  obtain ⟨m1, m2, m3, m4, m5⟩ := hrs
  have hb := (List.getElem?_eq_some_iff.mp hl).1
  have hbd : b < ds.length := by rw [B.dl]; exact hb
  have hdb : ds[b]? = some ds[b] := List.getElem?_eq_getElem hbd
  have hmd : ds[b] ∈ ds := List.getElem_mem hbd
  have few := ok.few
  have ltP : ∀ s ∈ P, s < n := fun s hs => ((ok.mem b l hl s).mp (sub s hs)).1
  have lenP : P.length ≤ n := by
    have := ndP.length_le_of_subset (l₂ := List.range n) fun x hx => List.mem_range.mpr (ltP x hx)
    simpa using this
  unfold b_Blocks_move_out
  walk_at "gos"
  refine w_iseqS ?_
  try walk_at "gos"
  refine ⟨_, seq_Ls crs, fun j hj => ?_⟩
  refine for_it ((iN P).map U.int) (fun i s' μ' => ∃ x3, s' = [some (.ref o), some (.ref rs), some (.int (b : Nat)), x3] ∧ μ'.length = μ.length ∧ (∀ (k : Nat) (c : Cell), k ≠ rb → k ≠ ds[b] → μ[k]? = some c → μ'[k]? = some c) ∧
      μ'[rb]? = some (.lst ((iN (mvBo S.bo (P.take i) S.ms.length)).map U.int)) ∧ μ'[ds[b]]? = some (.dct (kN (iN (l.filter fun s => decide (s ∉ P.take i)))))) (by rw [List.length_map, iN_len]; omega)
    ⟨_, rfl, rfl, fun _ _ _ _ h => h, by simpa [mvBo] using B.cb, by simpa [List.filter_eq_self.mpr] using B.cd b l _ hl hdb⟩ ?_ ?_ ?_
  · rintro i s' μ' ⟨x3, rfl, hl', hk, _⟩
    exact hj μ' (seq_Ls (hk _ _ (Ne.symm (fun e => m2 e.symm)) (fun e => m5 (e ▸ hmd)) crs)) i
  · rintro i s' μ1 hi ⟨x3, rfl, hl1, hk, c1, c2⟩
    have hi' : i < P.length := by simpa [iN_len] using hi
    have ei : ((iN P).map U.int)[i] = .int ((P[i] : Nat) : Int) := by simp [iN]
    rw [ei]
    refine ⟨_, rfl, ?_⟩
    have hts : P.take (i + 1) = P.take i ++ [P[i]] := by rw [List.take_append_getElem]
    have hPm := List.getElem_mem hi'
    have hni : P[i] ∉ P.take i := by
      intro hm
      obtain ⟨j', hj', ej⟩ := List.getElem_of_mem hm
      rw [List.length_take] at hj'
      rw [List.getElem_take] at ej
      have := Dg.nodup_inj ndP (i := j') (j := i) (by omega) (by omega) ej
      omega
    rw [hts]
    generalize P[i] = p at hPm hni
    have cob := hk o _ n1 (fun e => n4 (e ▸ hmd)) B.ob
    have crm := hk rm _ (Ne.symm n5) (fun e => n9 (e ▸ hmd)) B.cm
    rw [s_seq, s_delK]
    walk_at "gos"
    refine q_me rfl cob ?_
    rw [w_ixL crm, Dg.atI_nat, List.getElem?_map, hdb]
    refine ⟨_, rfl, _, _, _, rfl, rfl, c2, ?_, ?_⟩
    · rw [val_kN, if_pos (iN_mem.mpr (List.mem_filter.mpr ⟨sub p hPm, by simpa using hni⟩))]; rfl
    rw [drop_kN, iN_filter, List.filter_filter]
    have dne : ds[b] ≠ rb := fun e => n7 (e ▸ hmd)
    have cob' := get_set_ne (c := .dct (kN (iN (l.filter fun x => decide (x ≠ p) && decide (x ∉ P.take i))))) cob (fun e => n4 (e ▸ hmd) : ds[b] ≠ o)
    have crm' := get_set_ne (c := .dct (kN (iN (l.filter fun x => decide (x ≠ p) && decide (x ∉ P.take i))))) crm (fun e => n9 (e ▸ hmd) : ds[b] ≠ rm)
    have c1' := get_set_ne (c := .dct (kN (iN (l.filter fun x => decide (x ≠ p) && decide (x ∉ P.take i))))) c1 dne
    have c2' := get_set (c := .dct (kN (iN (l.filter fun x => decide (x ≠ p) && decide (x ∉ P.take i))))) c2
    try walk_at "gos"
    refine q_me rfl cob' ?_
    rw [w_lenL crm', List.length_map, B.dl]
    refine q_bo rfl cob' ?_
    try walk_at "gos"
    have hpn : p < (mvBo S.bo (P.take i) S.ms.length).length := by rw [mvBo_len, ok.bl]; exact ltP p hPm
    have hst := stU_L (j := p) (i := (p : Int)) (u := .int (S.ms.length : Nat)) c1' (by unfold ixN; simp [iN_len, hpn])
    refine ⟨_, hst, _, rfl, by simp [hl1], fun k c h1 h2 h3 => get_set_ne (get_set_ne (hk k c h1 h2 h3) (Ne.symm h2)) (Ne.symm h1), ?_, ?_⟩
    · rw [get_set c1']
      congr 2
      unfold mvBo
      rw [List.foldl_append]
      show _ = (iN ((List.foldl (fun bo s => bo.set s S.ms.length) S.bo (P.take i)).set p S.ms.length)).map U.int
      rw [iN_map, iN_map, List.map_set]
    · rw [get_set_ne c2' (Ne.symm dne)]
      congr 4
      refine List.filter_congr fun x _ => ?_
      by_cases h : x = p <;> simp [h]
  · rintro s' μ1 ⟨x3, rfl, hl1, hk, c1, c2⟩
    rw [List.length_map, iN_len, List.take_length] at c1 c2
    have cob := hk o _ n1 (fun e => n4 (e ▸ hmd)) B.ob
    have crm := hk rm _ (Ne.symm n5) (fun e => n9 (e ▸ hmd)) B.cm
    have crp := hk rp _ (Ne.symm n6) (fun e => n10 (e ▸ hmd)) B.cp
    have crs1 := hk rs _ m2 (fun e => m5 (e ▸ hmd)) crs
    refine q_pe rfl cob ?_
    refine ⟨_, lstU_L crp, ?_⟩
    refine q_me rfl cob ?_
    rw [w_lenL crm, List.length_map, B.dl, w_append crp (by rw [List.length_map, iN_len]; simp only [lim]; omega)]
    have pne : ∀ (k : Nat) (c : Cell), k ≠ rb → k ≠ ds[b] → k ≠ rp → μ[k]? = some c → (μ1.set rp (.lst ((iN S.pd).map U.int ++ [.int (S.ms.length : Nat)])))[k]? = some c := fun k c h1 h2 h3 h4 => get_set_ne (hk k c h1 h2 h4) (Ne.symm h3)
    have cob2 := pne o _ n1 (fun e => n4 (e ▸ hmd)) n3 B.ob
    have crm2 := pne rm _ (Ne.symm n5) (fun e => n9 (e ▸ hmd)) n8 B.cm
    have crs2 := pne rs _ m2 (fun e => m5 (e ▸ hmd)) m4 crs
    have crp2 := get_set (c := .lst ((iN S.pd).map U.int ++ [.int (S.ms.length : Nat)])) crp
    have crb2 := get_set_ne (c := .lst ((iN S.pd).map U.int ++ [.int (S.ms.length : Nat)])) c1 (Ne.symm n6)
    have cdb2 := get_set_ne (c := .lst ((iN S.pd).map U.int ++ [.int (S.ms.length : Nat)])) c2 (fun e => n10 (e ▸ hmd) : rp ≠ ds[b])
    have hl2 : (μ1.set rp (.lst ((iN S.pd).map U.int ++ [.int (S.ms.length : Nat)]))).length = μ.length := by simp [hl1]
    generalize μ1.set rp (.lst ((iN S.pd).map U.int ++ [.int (S.ms.length : Nat)])) = μ2 at pne cob2 crm2 crs2 crp2 crb2 cdb2 hl2
    refine q_me rfl cob2 ?_
    refine ⟨_, lstU_L crm2, ?_⟩
    refine w_dset ?_
    refine w_iseqS ?_
    try walk_at "gos"
    refine ⟨_, seq_Ls crs2, fun j4 hj4 => ⟨iN P, ?_, by rw [iN_len]; omega, fun i acc => hj4 _ (seq_Ls (get_snoc_lt crs2)) i, ?_⟩⟩
    · unfold iN
      rw [List.nodup_iff_pairwise_ne, List.pairwise_map]
      exact ndP.imp fun h e => h (by omega)
    have crm3 := get_snoc_lt (c := .dct (kN (iN P))) crm2
    rw [w_append crm3 (by rw [List.length_map, B.dl]; simp only [lim]; omega)]
    have ltm : ∀ {k : Nat} {c : Cell}, μ[k]? = some c → k ≠ μ.length := fun h => by have := get_lt h; omega
    have lds : ∀ d ∈ ds, d < μ.length := by
      intro d hd
      obtain ⟨k, hk'⟩ := List.getElem?_of_mem hd
      have h2 := (List.getElem?_eq_some_iff.mp hk').1
      exact get_lt (B.cd k _ d (List.getElem?_eq_getElem (by rw [← B.dl]; exact h2)) hk')
    refine q _ ⟨?_, ?_, ?_, ?_, ?_, fun i l' d h1 h2 => ?_, ?_⟩ ⟨by simp [hl2], fun i c hi hc => ?_⟩ (by simp [hl2])
    · exact get_set_ne (get_snoc_lt cob2) (Ne.symm n2)
    · exact get_set_ne (get_snoc_lt crb2) (Ne.symm n5)
    · rw [get_set crm3, hl2]; simp
    · rw [get_set_ne (get_snoc_lt crp2) n8]
      unfold St.mv
      simp [iN]
    · unfold St.mv
      simp [B.dl]
    · have gl : S.ms.getD b [] = l := by rw [List.getD_eq_getElem?_getD, hl]; rfl
      unfold St.mv at h1
      simp only [gl] at h1
      by_cases hi : i < ds.length
      · rw [List.getElem?_append_left hi] at h2
        rw [List.getElem?_append_left (by rw [List.length_set, ← B.dl]; exact hi), List.getElem?_set] at h1
        have hdm := List.mem_of_getElem? h2
        have ndr : d ≠ rm := fun e => n9 (e ▸ hdm)
        have ndp : d ≠ rp := fun e => n10 (e ▸ hdm)
        have ndb : d ≠ rb := fun e => n7 (e ▸ hdm)
        by_cases hbi : b = i
        · subst hbi
          rw [if_pos rfl, if_pos hb] at h1
          cases h1
          rw [hdb] at h2
          cases h2
          exact get_set_ne (get_snoc_lt cdb2) (Ne.symm ndr)
        · rw [if_neg hbi] at h1
          have hne : d ≠ ds[b] := by
            intro e
            obtain ⟨h3, h4⟩ := List.getElem?_eq_some_iff.mp h2
            have := Dg.nodup_inj n11 (i := i) (j := b) h3 hbd (by rw [h4, e])
            omega
          exact get_set_ne (get_snoc_lt (pne d _ ndb hne ndp (B.cd i l' d h1 h2))) (Ne.symm ndr)
      · have hil : i = ds.length := by
          have := (List.getElem?_eq_some_iff.mp h2).1
          simp at this; omega
        subst hil
        rw [List.getElem?_append_right (Nat.le_refl _), Nat.sub_self] at h2
        cases h2
        rw [List.getElem?_append_right (by rw [List.length_set, B.dl]; exact Nat.le_refl _), List.length_set, B.dl, Nat.sub_self] at h1
        cases h1
        refine get_set_ne ?_ (by have := get_lt B.cm; omega)
        rw [← hl2]
        exact get_snoc
    · have hno : μ.length ∉ (o :: rb :: rm :: rp :: ds) := by
        simp only [List.mem_cons, not_or]
        exact ⟨fun e => ltm B.ob e.symm, fun e => ltm B.cb e.symm, fun e => ltm B.cm e.symm, fun e => ltm B.cp e.symm, fun e => by have := lds _ e; omega⟩
      have := B.nd
      rw [show o :: rb :: rm :: rp :: (ds ++ [μ.length]) = (o :: rb :: rm :: rp :: ds) ++ [μ.length] by simp, List.nodup_append]
      exact ⟨this, by simp, fun a ha b' hb' => by simp at hb'; subst hb'; exact fun z => hno (z ▸ ha)⟩
    · simp only [List.mem_cons, not_or] at hi
      exact get_set_ne (get_snoc_lt (pne i c hi.2.1 (fun e => hi.2.2.2.2 (e ▸ hmd)) hi.2.2.2.1 hc)) (Ne.symm hi.2.2.1)
end Le
theorem set_back {μ : Mem} {d : Nat} {c c' x : Cell} (h : μ[d]? = some c) : ((μ.set d c') ++ [x]).set d c = μ ++ [x] := by
  have hl := get_lt h
  rw [List.set_append_left _ _ (by simpa using hl), List.set_set]
  congr 1
  refine List.ext_getElem? fun i => ?_
  rw [List.getElem?_set]
  by_cases e : d = i
  · subst e; rw [if_pos rfl, if_pos hl, h]
  · rw [if_neg e]
namespace Le
theorem FrX.step {X X1 : List Nat} {μ0 μ1 μ2 : Mem} (a : FrX X μ0 μ1) (b : FrX X1 μ1 μ2) (h : ∀ x ∈ X1, x ∈ X ∨ μ0.length ≤ x) : FrX X μ0 μ2 := ⟨Nat.le_trans a.1 b.1, fun i c hi e => b.2 i c (fun z => by
  rcases h i z with h | h
  · exact hi h
  · have := get_lt e; omega) (a.2 i c hi e)⟩
def kuG (gs : List (Nat × Nat)) : List (Key × U) := gs.map fun p => (.inl (p.1 : Int), .ref p.2)
theorem val_kuG {k : Nat} : ∀ {gs : List (Nat × Nat)}, valU (kuG gs) (.inl (k : Int)) = (gs.find? fun p => decide (p.1 = k)).map fun p => U.ref p.2
  | [] => rfl
  | p :: gs => by
    have ih := val_kuG (k := k) (gs := gs)
    unfold kuG valU at *
    rw [List.map_cons, List.find?_cons, List.find?_cons]
    by_cases h : p.1 = k
    · subst h; simp
    · have h' : ¬ (Sum.inl (p.1 : Int) : Key) = Sum.inl (k : Int) := fun e => h (by have := Sum.inl.inj e; omega)
      simp only [h', h, decide_false]
      exact ih
/-- the parts by blocks -/
structure GI (S : St) (X : List Nat) (gs : List (Nat × Nat)) (b : Nat) (μ : Mem) : Prop where
  cell : ∀ p ∈ gs, b ≤ p.2 ∧ μ[p.2]? = some (.lst ((iN (S.part X p.1)).map U.int))
  nk : (gs.map (·.1)).Nodup
  nr : (gs.map (·.2)).Nodup
  all : ∀ x ∈ X, ∃ p ∈ gs, p.1 = S.β x
  ex : ∀ p ∈ gs, ∃ x ∈ X, S.β x = p.1
structure SplitS (g : List U → Mem → Res U) : Prop where
  ap : ∀ {n o rb rm rp rs : Nat} {ds X : List Nat} {S : St} {μ : Mem} {Q : U → Mem → Prop} {E : Str → Mem → Prop}, BkU o rb rm rp ds μ S → S.ok n → n ≤ 5000 → S.pd.length ≤ S.ms.length → X.Nodup → (∀ s ∈ X, s < n) →
    rs ∉ (o :: rb :: rm :: rp :: ds) → μ[rs]? = some (.lst ((iN X).map U.int)) → (∀ S' ds' μ', Spd n S S' X → BkU o rb rm rp ds' μ' S' → FrX (o :: rb :: rm :: rp :: ds) μ μ' → (∀ d ∈ ds', d ∈ ds ∨ μ.length ≤ d) → Q .non μ') → wpE (g [.ref o, .ref rs] μ) Q E
def spTail (C : Calls) : FS :=
    (sLock (fVar 2) (sFor (Dg.iItems (fVar 2)) (.tup [4, 5]) (sSeq (sAsg (.one 6) (fCall bLen (aCons (fOp ixU (fFld "Blocks" "members" (fVar 0)) (fVar 4)) aNil)))
    (sIf (tstB (fOp uLe (fOp uMul (fC (.int 2)) (fCall bLen (aCons (fVar 5) aNil))) (fVar 6))) (sExpr (fMeth "Blocks" "move_out" 3 (C 4) (fVar 0) (aCons (fVar 5) (aCons (fVar 4) aNil)))) (sIf (tstB (fOp uLt (fCall bLen (aCons (fVar 5) aNil)) (fVar 6))) (sSeq (sAsg (.one 7) (fDcK (iSeq (fVar 5)) [3] (.one 3) tAll (fVar 3) (fC (.bl true))))
    (sExpr (fMeth "Blocks" "move_out" 3 (C 4) (fVar 0) (aCons (fLock (fOp ixU (fFld "Blocks" "members" (fVar 0)) (fVar 4)) (fLc (Dg.iKeys (fOp ixU (fFld "Blocks" "members" (fVar 0)) (fVar 4))) [3] (.one 3) (tstB (fOp uNin (fVar 3) (fVar 7))) (fVar 3))) (aCons (fVar 4) aNil))))) sNext)))))
theorem spl_is (C : Calls) : b_Blocks_split_by C = (sSeq (sAsg (.one 2) fD0)
    (sSeq (sFor (iSeq (fVar 1)) (.one 3) (sExpr (fMtL gAppend (fSetd (fVar 2) (fOp ixU (fFld "Blocks" "block_of" (fVar 0)) (fVar 3)) (fLst aNil)) (aCons (fVar 3) aNil))))
    (spTail C))) := rfl
theorem BkU.lt {o rb rm rp : Nat} {ds : List Nat} {μ : Mem} {S : St} (B : BkU o rb rm rp ds μ S) : ∀ x ∈ (o :: rb :: rm :: rp :: ds), x < μ.length := by
  intro x hx
  simp only [List.mem_cons] at hx
  rcases hx with rfl | rfl | rfl | rfl | hx
  · exact get_lt B.ob
  · exact get_lt B.cb
  · exact get_lt B.cm
  · exact get_lt B.cp
  · obtain ⟨k, hk'⟩ := List.getElem?_of_mem hx
    have h2 := (List.getElem?_eq_some_iff.mp hk').1
    exact get_lt (B.cd k _ x (List.getElem?_eq_getElem (by rw [← B.dl]; exact h2)) hk')
theorem BkU.fr {o rb rm rp : Nat} {ds : List Nat} {μ μ' : Mem} {S : St} (B : BkU o rb rm rp ds μ S) (f : Fr μ μ') : BkU o rb rm rp ds μ' S := ⟨f.at_ _ _ B.ob, f.at_ _ _ B.cb, f.at_ _ _ B.cm, f.at_ _ _ B.cp, B.dl, fun i l d h1 h2 => f.at_ _ _ (B.cd i l d h1 h2), B.nd⟩
theorem spl_tail {C : Calls} (h4 : MoveS (C 4)) {n o rb rm rp p : Nat} {ds X : List Nat} {S : St} {gs : List (Nat × Nat)} {μ0 μ : Mem} {u1 : U} {x3 x4 x5 x6 x7 : Option U} {D : Dn} (B : BkU o rb rm rp ds μ S) (ok : S.ok n) (hn : n ≤ 5000) (hp : S.pd.length ≤ S.ms.length) (nX : X.Nodup) (lX : ∀ s ∈ X, s < n)
    (hX : ∀ x ∈ (o :: rb :: rm :: rp :: ds), x < p) (cp : μ[p]? = some (.dct (kuG gs))) (G : GI S X gs (p + 1) μ) (hgl : gs.length ≤ n) (q : ∀ S' ds' μ' s', Spd n S S' X → BkU o rb rm rp ds' μ' S' → FrX (p :: o :: rb :: rm :: rp :: ds) μ μ' → (∀ d ∈ ds', d ∈ ds ∨ μ.length ≤ d) → D.nx s' μ') :
    Dg.wpS (spTail C [some (.ref o), some u1, some (.ref p), x3, x4, x5, x6, x7] μ) D := by
  unfold spTail
  refine s_lockD (r := p) (kus := kuG gs) rfl cp ?_
  have hlp := get_lt cp
  have B1 : BkU o rb rm rp ds (μ.set p (.fdc (kuG gs))) S := by
    have ne : ∀ {k : Nat} {c : Cell}, k ∈ (o :: rb :: rm :: rp :: ds) → μ[k]? = some c → (μ.set p (.fdc (kuG gs)))[k]? = some c := fun hk hc => get_set_ne hc (by have := hX _ hk; omega)
    exact ⟨ne (by simp) B.ob, ne (by simp) B.cb, ne (by simp) B.cm, ne (by simp) B.cp, B.dl, fun i l d h1 h2 => ne (by simp [List.mem_of_getElem? h2]) (B.cd i l d h1 h2), B.nd⟩
  have G1 : ∀ q' ∈ gs, (μ.set p (.fdc (kuG gs)))[q'.2]? = some (.lst ((iN (S.part X q'.1)).map U.int)) := fun q' hq => get_set_ne (G.cell q' hq).2 (by have := (G.cell q' hq).1; omega)
  have cl := get_set (c := .fdc (kuG gs)) cp
  have fl : FrX (p :: o :: rb :: rm :: rp :: ds) μ (μ.set p (.fdc (kuG gs))) := FrX.refl.put (.inl (by simp))
  have hlen : (μ.set p (.fdc (kuG gs))).length = μ.length := by simp
  generalize μ.set p (.fdc (kuG gs)) = μ1 at B1 G1 cl fl hlen
  rw [w_for, w_items, w_var]
  have hfd : fdcU μ1 (.ref p) = some (kuG gs) := by unfold fdcU; simp only [cl]
  refine ⟨_, rfl, _, hfd, ?_, ?_⟩
  · unfold ksOk kuG
    rw [List.all_map, List.all_eq_true]
    intro x _; rfl
  refine for_seq (us := itemsU (kuG gs)) (fun i s' μ' => ∃ (x3 x4 x5 x6 x7 : Option U) (S1 : St) (ds1 : List Nat), s' = [some (.ref o), some u1, some (.ref p), x3, x4, x5, x6, x7] ∧ Sp n S S1 X ((gs.take i).map (·.1)).reverse ∧ BkU o rb rm rp ds1 μ' S1 ∧
      FrX (o :: rb :: rm :: rp :: ds) μ1 μ' ∧ (∀ d ∈ ds1, d ∈ ds ∨ μ1.length ≤ d)) (by simp [itemsU, kuG]; omega) ⟨x3, x4, x5, x6, x7, S, ds, rfl, by simpa using Sp.new ok, B1, .refl, fun d hd => .inl hd⟩ ?_ ?_
  · rintro i s' μ2 hi ⟨x3, x4, x5, x6, x7, S1, ds1, rfl, Z, B2, f2, d2⟩
    have hi' : i < gs.length := by simpa [itemsU, kuG] using hi
    have ei : (itemsU (kuG gs))[i] = .tup [.int (gs[i].1 : Nat), .ref gs[i].2] := by simp [itemsU, kuG, kU]
    rw [ei]
    have hgm := List.getElem_mem hi'
    have hts : gs.take (i + 1) = gs.take i ++ [gs[i]] := by rw [List.take_append_getElem]
    have hnew : gs[i].1 ∉ ((gs.take i).map (·.1)).reverse := by
      rw [List.mem_reverse, List.mem_map]
      rintro ⟨y, hy, ey⟩
      obtain ⟨j', hj', ej⟩ := List.getElem_of_mem hy
      rw [List.length_take] at hj'
      rw [List.getElem_take] at ej
      have := Dg.nodup_inj G.nk (i := j') (j := i) (by simp; omega) (by simpa using hi') (by simp [ej, ey])
      omega
    rw [hts, List.map_append, List.reverse_append]
    have hcell := G1 _ hgm
    have hr1 := (G.cell _ hgm).1
    obtain ⟨xw, hxw, exw⟩ := G.ex _ hgm
    generalize gs[i] = pr at hgm hnew hcell hr1 exw
    obtain ⟨b, r⟩ := pr
    simp only at hnew hcell hr1 exw
    have hb : b < S.ms.length := by rw [← exw]; exact ok.lt xw (lX xw hxw)
    have hl0 : S.ms[b]? = some S.ms[b] := List.getElem?_eq_getElem hb
    have hl1 : S1.ms[b]? = some S.ms[b] := by rw [Z.ms b hb hnew]; exact hl0
    have Zn := Z.spl ok hnew hl0 nX lX ⟨xw, hxw, exw⟩
    generalize S.ms[b] = l at hl0 hl1 Zn
    have gl : S1.ms.getD b [] = l := by rw [List.getD_eq_getElem?_getD, hl1]; rfl
    have hb1 := (List.getElem?_eq_some_iff.mp hl1).1
    have few1 := Z.ok.few
    have hbd : b < ds1.length := by rw [B2.dl]; exact hb1
    have hdb : ds1[b]? = some ds1[b] := List.getElem?_eq_getElem hbd
    have cdb := B2.cd b l _ hl1 hdb
    have ndl := ok.nd l (List.mem_of_getElem? hl0)
    have lenl : l.length ≤ n := by
      have := ndl.length_le_of_subset (l₂ := List.range n) fun x hx => List.mem_range.mpr ((ok.mem b l hl0 x).mp hx).1
      simpa using this
    have pm : ∀ s, s ∈ S.part X b ↔ s ∈ X ∧ S.β s = b := fun s => by unfold St.part; rw [List.mem_filter]; simp
    have psub : ∀ s ∈ S.part X b, s ∈ l := fun s hs => (ok.mem b l hl0 s).mpr ⟨lX s ((pm s).mp hs).1, ((pm s).mp hs).2⟩
    have ndp : (S.part X b).Nodup := nX.filter _
    have lenp : (S.part X b).length ≤ n := Nat.le_trans (ndp.length_le_of_subset psub) lenl
    have hrX : r ∉ (o :: rb :: rm :: rp :: ds) := fun h => by have := hX _ h; omega
    have cr2 := f2.2 r _ hrX hcell
    have hrX1 : r ∉ (o :: rb :: rm :: rp :: ds1) := by
      intro h
      simp only [List.mem_cons] at h hrX
      rcases h with h | h | h | h | h
      · exact hrX (.inl h)
      · exact hrX (.inr (.inl h))
      · exact hrX (.inr (.inr (.inl h)))
      · exact hrX (.inr (.inr (.inr (.inl h))))
      · rcases d2 r h with h | h
        · exact hrX (.inr (.inr (.inr (.inr h))))
        · have := get_lt hcell; omega
    have own1 : ∀ x ∈ (o :: rb :: rm :: rp :: ds1), x ∈ (o :: rb :: rm :: rp :: ds) ∨ μ1.length ≤ x := by
      intro x h
      simp only [List.mem_cons] at h ⊢
      rcases h with h | h | h | h | h
      · exact .inl (.inl h)
      · exact .inl (.inr (.inl h))
      · exact .inl (.inr (.inr (.inl h)))
      · exact .inl (.inr (.inr (.inr (.inl h))))
      · rcases d2 x h with h | h
        · exact .inl (.inr (.inr (.inr (.inr h))))
        · exact .inr h
    have pd1 : S1.pd.length ≤ 10000 := by have := Z.cnt; omega
    refine ⟨[some (.ref o), some u1, some (.ref p), x3, some (.int (b : Nat)), some (.ref r), x6, x7], rfl, ?_⟩
    walk_at "gos"
    refine q_me rfl B2.ob ?_
    rw [w_ixL B2.cm, Dg.atI_nat, List.getElem?_map, hdb]
    refine ⟨_, rfl, ?_⟩
    rw [w_lenD cdb, kN_len, iN_len]
    try walk_at "gos"
    rw [w_lenL cr2, List.length_map, iN_len]
    try walk_at "gos"
    refine ⟨by unfold big64; simp, ?_⟩
    unfold St.spl at Zn
    rw [gl] at Zn
    by_cases h1 : 2 * (S.part X b).length ≤ l.length
    · rw [if_pos (by omega)]
      rw [if_pos h1] at Zn
      rw [w_meth]
      walk_at "gos"
      refine ⟨_, isO_is B2.ob, rfl, ?_⟩
      refine h4.ap B2 Z.ok hn pd1 hl1 ndp psub hrX1 cr2 fun μ3 B3 f3 l3 => ?_
      refine ⟨_, _, _, _, _, _, _, rfl, Zn, B3, f2.step f3 own1, fun d hd => ?_⟩
      rcases List.mem_append.mp hd with hd | hd
      · exact d2 d hd
      · simp at hd; subst hd; exact .inr f2.1
    · rw [if_neg (by omega)]
      rw [if_neg h1] at Zn
      rw [w_lenL cr2, List.length_map, iN_len]
      try walk_at "gos"
      by_cases h2 : (S.part X b).length < l.length
      · rw [if_pos h2] at Zn
        rw [if_pos (by omega)]
        refine w_dset ?_
        refine w_iseqS ?_
        try walk_at "gos"
        refine ⟨_, seq_Ls cr2, fun j4 hj4 => ⟨iN (S.part X b), ?_, by rw [iN_len]; omega, fun i acc => hj4 _ (seq_Ls (get_snoc_lt cr2)) i, ?_⟩⟩
        · unfold iN
          rw [List.nodup_iff_pairwise_ne, List.pairwise_map]
          exact ndp.imp fun h e => h (by omega)
        have f3 : Fr μ2 (μ2 ++ [Cell.dct (kN (iN (S.part X b)))]) := Fr.refl.snoc
        have ci : (μ2 ++ [Cell.dct (kN (iN (S.part X b)))])[μ2.length]? = some (.dct (kN (iN (S.part X b)))) := get_snoc
        have l3 : μ2.length ≤ (μ2 ++ [Cell.dct (kN (iN (S.part X b)))]).length := by simp
        generalize hdi : μ2.length = di at ci l3 ⊢
        generalize μ2 ++ [Cell.dct (kN (iN (S.part X b)))] = μ3 at f3 ci l3
        have B3 := B2.fr f3
        have cdb3 := f3.at_ _ _ cdb
        rw [w_meth]
        walk_at "gos"
        refine ⟨_, isO_is B3.ob, rfl, ?_⟩
        have nelk : ∀ {k : Nat} {c : Cell}, k ≠ ds1[b] → μ3[k]? = some c → (μ3.set ds1[b] (.fdc (kN (iN l))))[k]? = some c := fun h e => get_set_ne e (Ne.symm h)
        have ndX1 := B3.nd
        simp only [List.nodup_cons, List.mem_cons, not_or] at ndX1
        obtain ⟨⟨k1, k2, k3, k4⟩, ⟨k5, k6, k7⟩, ⟨k8, k9⟩, k10, k11⟩ := ndX1
        have hdm : ds1[b] ∈ ds1 := List.getElem_mem hbd
        have ceval : ∀ μ', μ'[o]? = some (bkC rb rm rp) → μ'[rm]? = some (.lst (ds1.map U.ref)) → fOp ixU (fFld "Blocks" "members" (fVar 0)) (fVar 4) [some (.ref o), some u1, some (.ref p), x3, some (.int (b : Nat)), some (.ref r), some (.int (l.length : Nat)), some (.ref di)] μ' = .ok (.ref ds1[b]) μ' := by
          intro μ' h1 h2
          have : wpE (fOp ixU (fFld "Blocks" "members" (fVar 0)) (fVar 4) [some (.ref o), some u1, some (.ref p), x3, some (.int (b : Nat)), some (.ref r), some (.int (l.length : Nat)), some (.ref di)] μ') (fun u μ'' => u = .ref ds1[b] ∧ μ'' = μ') (fun _ _ => False) := by
            walk_at "gos"
            refine q_me rfl h1 ?_
            rw [w_ixL h2, Dg.atI_nat, List.getElem?_map, hdb]
            exact ⟨_, rfl, rfl, rfl⟩
          obtain ⟨a, m, e, rfl, rfl⟩ := this.get
          exact e
        refine w_lockD (ceval μ3 B3.ob B3.cm) cdb3 ?_
        have cob4 := nelk (k := o) (fun e => k4 (e ▸ hdm)) B3.ob
        have crm4 := nelk (k := rm) (fun e => k9 (e ▸ hdm)) B3.cm
        have cdi4 := nelk (k := di) (fun e => by have := get_lt cdb; omega) ci
        have clk4 : (μ3.set ds1[b] (.fdc (kN (iN l))))[ds1[b]]? = some (.fdc (kN (iN l))) := get_set cdb3
        have l4 : (μ3.set ds1[b] (.fdc (kN (iN l)))).length = μ3.length := by simp
        have key : ((μ3.set ds1[b] (.fdc (kN (iN l)))) ++ [Cell.lst ((iN (l.filter fun s => decide (s ∉ S.part X b))).map U.int)]).set ds1[b] (.dct (kN (iN l))) = μ3 ++ [Cell.lst ((iN (l.filter fun s => decide (s ∉ S.part X b))).map U.int)] := set_back cdb3
        have hlockev := ceval _ cob4 crm4
        generalize μ3.set ds1[b] (.fdc (kN (iN l))) = μ4 at cob4 crm4 cdi4 clk4 l4 key hlockev
        rw [w_lc, w_keys, hlockev]
        have hfd4 : fdcU μ4 (.ref ds1[b]) = some (kN (iN l)) := by unfold fdcU; simp only [clk4]
        refine ⟨_, hfd4, ksOk_kN, ?_⟩
        rw [keys_kN]
        refine lc_fm l (fun k => U.int ((k : Nat) : Int)) (fun s => decide (s ∉ S.part X b)) (fun k => U.int ((k : Nat) : Int)) (by omega) (fun i acc => by rw [item_seq, iN_map]) (fun x hx acc => ?_) ?_
        · refine ⟨_, rfl, ?_⟩
          walk_at "gos"
          rw [w_ninD (get_snoc_lt cdi4), val_kN]
          refine ⟨_, rfl, ?_, rfl, fun _ => ?_⟩
          · by_cases h : x ∈ S.part X b
            · simp [h, iN_mem]
            · simp [h, iN_mem]
          · walk_at "gos"
        · rw [← iN_map]
          refine ⟨_, get_snoc_lt clk4, ?_⟩
          rw [key, l4]
          try walk_at "gos"
          have hnr : μ3.length ∉ (o :: rb :: rm :: rp :: ds1) := fun h => by have := B3.lt _ h; omega
          refine h4.ap (B3.fr Fr.refl.snoc) Z.ok hn pd1 hl1 (ndl.filter _) (fun s hs => (List.mem_filter.mp hs).1) hnr get_snoc fun μ5 B5 f5 l5 => ?_
          refine ⟨_, _, _, _, _, _, _, rfl, Zn, B5, ?_, fun d hd => ?_⟩
          · refine (FrX.step (X := o :: rb :: rm :: rp :: ds) f2 (X1 := o :: rb :: rm :: rp :: ds1) (FrX.step (X := o :: rb :: rm :: rp :: ds1) (X1 := o :: rb :: rm :: rp :: ds1) ⟨by simp; omega, fun i c hi e => get_snoc_lt (f3.at_ _ _ e)⟩ f5 (fun x hx => .inl hx)) own1)
          · rcases List.mem_append.mp hd with hd | hd
            · exact d2 d hd
            · simp at hd; subst hd
              have := f2.1
              exact .inr (by omega)
      · rw [if_neg h2] at Zn
        rw [if_neg (by omega)]
        exact ⟨_, _, _, _, _, _, _, rfl, Zn, B2, f2, d2⟩
  · rintro s' μ2 ⟨x3, x4, x5, x6, x7, S1, ds1, rfl, Z, B2, f2, d2⟩
    have hpX : p ∉ (o :: rb :: rm :: rp :: ds) := fun h => by have := hX _ h; omega
    refine ⟨_, f2.2 p _ hpX cl, ?_⟩
    rw [show (itemsU (kuG gs)).length = gs.length by simp [itemsU, kuG], List.take_length] at Z
    have lt2 := B2.lt
    have ne : ∀ {k : Nat} {c : Cell}, k ∈ (o :: rb :: rm :: rp :: ds1) → μ2[k]? = some c → (μ2.set p (.dct (kuG gs)))[k]? = some c := fun {k c} hk hc => get_set_ne hc (fun e => by
      subst e
      simp only [List.mem_cons] at hk hpX
      rcases hk with h | h | h | h | h
      · exact hpX (.inl h)
      · exact hpX (.inr (.inl h))
      · exact hpX (.inr (.inr (.inl h)))
      · exact hpX (.inr (.inr (.inr (.inl h))))
      · rcases d2 _ h with h | h
        · exact hpX (.inr (.inr (.inr (.inr h))))
        · omega)
    refine q S1 ds1 _ _ (Z.all fun x hx => ?_) ⟨ne (by simp) B2.ob, ne (by simp) B2.cb, ne (by simp) B2.cm, ne (by simp) B2.cp, B2.dl, fun i l d h1 h2 => ne (by simp [List.mem_of_getElem? h2]) (B2.cd i l d h1 h2), B2.nd⟩ ?_ fun d hd => by
      rcases d2 d hd with h | h
      · exact .inl h
      · exact .inr (by omega)
    · obtain ⟨y, hy, ey⟩ := G.all x hx
      rw [List.mem_reverse, ← ey]
      exact List.mem_map_of_mem hy
    · refine FrX.put (fl.step f2 fun x hx => .inl ?_) (.inl (by simp))
      simp only [List.mem_cons] at hx ⊢
      exact .inr hx
theorem split_s {C : Calls} (h4 : MoveS (C 4)) : SplitS (runDef 8 (b_Blocks_split_by C)) := by
  constructor
  intro n o rb rm rp rs ds X S μ Q E B ok hn hp nX lX hrs crs q
  rw [spl_is]
  have fin := fun (p : Nat) (gs : List (Nat × Nat)) (μ1 : Mem) (x3 : Option U) (D : Dn) B1 hX cp G hgl q => spl_tail (C := C) h4 (n := n) (o := o) (rb := rb) (rm := rm) (rp := rp) (p := p) (ds := ds) (X := X) (S := S) (gs := gs) (μ0 := μ) (μ := μ1) (u1 := .ref rs) (x3 := x3) (x4 := none) (x5 := none) (x6 := none) (x7 := none) (D := D) B1 ok hn hp nX lX hX cp G hgl q
  generalize spTail C = T at fin ⊢
  walk_at "gos"
  refine w_iseqS ?_
  try walk_at "gos"
  have lX' : X.length ≤ n := by
    have := nX.length_le_of_subset (l₂ := List.range n) fun x hx => List.mem_range.mpr (lX x hx)
    simpa using this
  have ltB := B.lt
  refine ⟨_, seq_Ls (get_snoc_lt crs), fun j hj => ?_⟩
  have partsn : ∀ (X : List Nat) (x k : Nat), S.part (X ++ [x]) k = if S.β x = k then S.part X k ++ [x] else S.part X k := by
    intro X x k
    unfold St.part
    rw [List.filter_append]
    by_cases h : S.β x = k <;> simp [h]
  refine for_it ((iN X).map U.int) (fun i s' μ' => ∃ (x3 : Option U) (gs : List (Nat × Nat)), s' = [some (.ref o), some (.ref rs), some (.ref μ.length), x3, none, none, none, none] ∧ Fr μ μ' ∧ μ'[μ.length]? = some (.dct (kuG gs)) ∧ GI S (X.take i) gs (μ.length + 1) μ' ∧ gs.length ≤ i) (by rw [List.length_map, iN_len]; omega)
    ⟨_, [], rfl, Fr.refl.snoc, by simp [kuG], ⟨fun p h => by simp at h, by simp, by simp, fun x h => by simp at h, fun p h => by simp at h⟩, Nat.le_refl _⟩ (fun i s' μ' ⟨x3, gs, _, f, _⟩ => hj μ' (seq_Ls (f.at_ _ _ crs)) i) ?_ ?_
  · rintro i s' μ1 hi ⟨x3, gs, rfl, f, cp, G, gl⟩
    have hi' : i < X.length := by simpa [iN_len] using hi
    have ei : ((iN X).map U.int)[i] = .int ((X[i] : Nat) : Int) := by simp [iN]
    rw [ei]
    refine ⟨_, rfl, ?_⟩
    have hts : X.take (i + 1) = X.take i ++ [X[i]] := by rw [List.take_append_getElem]
    have hx := lX _ (List.getElem_mem hi')
    rw [hts]
    generalize X[i] = x at hx
    have hlp := get_lt cp
    rw [s_expr, w_app, w_setd, w_var]
    refine ⟨_, rfl, ⟨_, dct_D cp⟩, ?_⟩
    walk_at "gos"
    refine q_bo rfl (f.at_ _ _ B.ob) ?_
    have gb : S.bo[x]? = some (S.β x) := by
      unfold St.β
      rw [List.getD_eq_getElem?_getD, List.getElem?_eq_getElem (by rw [ok.bl]; exact hx)]; rfl
    rw [w_ixL (f.at_ _ _ B.cb), Dg.atI_nat, iN_map, List.getElem?_map, gb]
    refine ⟨_, rfl, ?_⟩
    try walk_at "gos"
    have cp1 := get_snoc_lt (c := .lst []) cp
    have glen : gs.length < lim := by simp only [lim]; omega
    refine ⟨_, _, _, rfl, rfl, cp1, by unfold kuG; rw [List.length_map]; exact glen, ?_⟩
    rw [val_kuG]
    cases hf : gs.find? (fun p => decide (p.1 = S.β x)) with
    | some p =>
      have hpm := List.mem_of_find?_eq_some hf
      have hpk : p.1 = S.β x := by have := List.find?_some hf; simpa using this
      obtain ⟨b1, b2⟩ := G.cell p hpm
      have b3 := get_snoc_lt (c := .lst []) b2
      simp only [Option.map_some]
      refine ⟨_, lstU_L b3, ?_⟩
      have lp := (nX.sublist (List.take_sublist i X)).filter (fun y => decide (S.β y = p.1))
      have lp2 : (S.part (X.take i) p.1).length ≤ n := by
        have := List.length_filter_le (fun y => decide (S.β y = p.1)) (X.take i)
        rw [List.length_take] at this
        unfold St.part; omega
      rw [w_append b3 (by rw [List.length_map, iN_len]; simp only [lim]; omega)]
      refine ⟨_, gs, rfl, (f.snoc).put (by omega), get_set_ne cp1 (by omega), ⟨fun p' hp' => ?_, G.nk, G.nr, fun y hy => ?_, fun p' hp' => ?_⟩, by omega⟩
      · obtain ⟨d1, d2⟩ := G.cell p' hp'
        refine ⟨d1, ?_⟩
        by_cases e : p' = p
        · subst e
          rw [get_set b3, partsn, if_pos hpk.symm]
          simp [iN]
        · have hne : p'.2 ≠ p.2 := by
            intro h
            obtain ⟨i1, h1, e1⟩ := List.getElem_of_mem hp'
            obtain ⟨i2, h2, e2⟩ := List.getElem_of_mem hpm
            have := Dg.nodup_inj G.nr (i := i1) (j := i2) (by simpa using h1) (by simpa using h2) (by simp [e1, e2, h])
            subst this
            exact e (e1.symm.trans e2)
          have hne1 : p'.1 ≠ p.1 := by
            intro h
            obtain ⟨i1, h1, e1⟩ := List.getElem_of_mem hp'
            obtain ⟨i2, h2, e2⟩ := List.getElem_of_mem hpm
            have := Dg.nodup_inj G.nk (i := i1) (j := i2) (by simpa using h1) (by simpa using h2) (by simp [e1, e2, h])
            subst this
            exact e (e1.symm.trans e2)
          rw [get_set_ne (get_snoc_lt d2) (Ne.symm hne), partsn, if_neg (by rw [← hpk]; exact Ne.symm hne1)]
      · rcases List.mem_append.mp hy with hy | hy
        · exact G.all y hy
        · simp at hy; subst hy; exact ⟨p, hpm, hpk⟩
      · obtain ⟨y, a, b⟩ := G.ex p' hp'
        exact ⟨y, List.mem_append_left _ a, b⟩
    | none =>
      simp only [Option.map_none]
      have hnone : ∀ p ∈ gs, p.1 ≠ S.β x := fun p hp e => by
        have := List.find?_eq_none.mp hf p hp
        exact this (by simp [e])
      have hput : putU (kuG gs) (.inl ((S.β x : Nat) : Int)) (.ref μ1.length) = kuG (gs ++ [(S.β x, μ1.length)]) := by
        rw [put_new (by rw [val_kuG, hf]; rfl)]
        unfold kuG
        simp
      rw [hput]
      have cz : ((μ1 ++ [Cell.lst []]).set μ.length (.dct (kuG (gs ++ [(S.β x, μ1.length)]))))[μ1.length]? = some (.lst []) := get_set_ne get_snoc (by omega)
      have cpp : ((μ1 ++ [Cell.lst []]).set μ.length (.dct (kuG (gs ++ [(S.β x, μ1.length)]))))[μ.length]? = some (.dct (kuG (gs ++ [(S.β x, μ1.length)]))) := get_set cp1
      refine ⟨_, lstU_L cz, ?_⟩
      rw [w_append cz (by simp [lim])]
      have empty : S.part (X.take i) (S.β x) = [] := by
        unfold St.part
        rw [List.filter_eq_nil_iff]
        intro y hy
        obtain ⟨p, hp, e⟩ := G.all y hy
        simp only [decide_eq_true_eq]
        intro e2
        exact hnone p hp (by rw [e, e2])
      refine ⟨_, gs ++ [(S.β x, μ1.length)], rfl, ((f.snoc).put (Nat.le_refl _)).put (by have := f.le; omega), get_set_ne cpp (by omega), ⟨fun p' hp' => ?_, ?_, ?_, fun y hy => ?_, fun p' hp' => ?_⟩, by simp; omega⟩
      · rcases List.mem_append.mp hp' with hp' | hp'
        · obtain ⟨d1, d2⟩ := G.cell p' hp'
          refine ⟨d1, ?_⟩
          have := get_lt d2
          rw [get_set_ne (get_set_ne (get_snoc_lt d2) (by omega)) (by omega), partsn, if_neg (Ne.symm (hnone p' hp'))]
        · simp at hp'; subst hp'
          refine ⟨by omega, ?_⟩
          simp only
          rw [get_set cz, partsn, if_pos rfl, empty]
          rfl
      · rw [List.map_append, List.nodup_append]
        exact ⟨G.nk, by simp, fun a ha b hb => by
          simp at hb; subst hb
          obtain ⟨p, hp, rfl⟩ := List.mem_map.mp ha
          exact hnone p hp⟩
      · rw [List.map_append, List.nodup_append]
        exact ⟨G.nr, by simp, fun a ha b hb => by
          simp at hb; subst hb
          obtain ⟨p, hp, rfl⟩ := List.mem_map.mp ha
          have := get_lt (G.cell p hp).2
          omega⟩
      · rcases List.mem_append.mp hy with hy | hy
        · obtain ⟨p, a, b⟩ := G.all y hy
          exact ⟨p, List.mem_append_left _ a, b⟩
        · simp at hy; subst hy; exact ⟨(S.β y, μ1.length), List.mem_append_right _ (by simp), rfl⟩
      · rcases List.mem_append.mp hp' with hp' | hp'
        · obtain ⟨y, a, b⟩ := G.ex p' hp'
          exact ⟨y, List.mem_append_left _ a, b⟩
        · simp at hp'; subst hp'
          exact ⟨x, by simp, rfl⟩
  · rintro s' μ1 ⟨x3, gs, rfl, f, cp, G, gl⟩
    rw [List.length_map, iN_len] at gl G
    rw [List.take_length] at G
    refine fin μ.length gs μ1 x3 _ (B.fr f) ltB cp G (by omega) fun S' ds' μ2 s2 Z B2 f2 d2 => ?_
    refine q S' ds' μ2 Z B2 ⟨Nat.le_trans f.le f2.1, fun i c hi e => f2.2 i c (fun h => ?_) (f.at_ _ _ e)⟩ fun d hd => by
      rcases d2 d hd with h | h
      · exact .inl h
      · exact .inr (by have := f.le; omega)
    rcases List.mem_cons.mp h with h | h
    · have := get_lt e; omega
    · exact hi h
end Le
theorem w_mulRep {a : Nat} {n : Nat} {μ : Mem} {Q : U → Mem → Prop} {E : Str → Mem → Prop} {u : U} (h : μ[a]? = some (.lst [u])) (hn : n ≤ 100000) : wpE (uMul (.ref a) (.int (n : Nat)) μ) Q E = Q (.ref μ.length) (μ ++ [.lst (List.replicate n u)]) := by
  have e : repU ((n : Int)).toNat [u] = List.replicate n u := by
    rw [Int.toNat_natCast]
    unfold repU
    induction n with
    | zero => rfl
    | succ n ih => have := ih (by omega); simp_all [List.replicate_succ]
  have : uMul (.ref a) (.int (n : Nat)) μ = .ok (.ref μ.length) (μ ++ [.lst (List.replicate n u)]) := by
    unfold uMul
    simp only [h]
    rw [if_pos ⟨by omega, by omega, by simp [lim]; omega⟩, e]
  rw [this]; rfl
theorem putFU_len (f : Str) (v : U) : ∀ fs : List (Str × U), (putFU f v fs).length ≤ fs.length + 1
  | [] => by simp [putFU]
  | (g, x) :: r => by
    unfold putFU
    split
    · simp
    · have := putFU_len f v r
      simp; omega
namespace Le
def st0 (n : Nat) : St := ⟨List.replicate n 0, [List.range n], [0]⟩
theorem st0_ok {n : Nat} (h : 0 < n) : (st0 n).ok n := by
  have hβ : ∀ s, (st0 n).β s = 0 := fun s => by
    unfold St.β st0
    simp only
    rw [List.getD_eq_getElem?_getD, List.getElem?_replicate]
    split <;> rfl
  refine ⟨by simp [st0], fun b l e k => ?_, fun l hl => ?_, fun l hl => ?_, fun s hs => by rw [hβ]; simp [st0], fun b hb => by simp [st0] at hb; subst hb; simp [st0]⟩
  · have hb := (List.getElem?_eq_some_iff.mp e).1
    have : b = 0 := by simp [st0] at hb; omega
    subst this
    simp [st0] at e
    subst e
    rw [hβ]
    simp
  · simp [st0] at hl; subst hl; exact List.nodup_range
  · simp [st0] at hl; subst hl
    intro e
    have := congrArg List.length e
    simp at this; omega
structure InitS (g : List U → Mem → Res U) : Prop where
  ap : ∀ {n o : Nat} {μ : Mem} {Q : U → Mem → Prop} {E : Str → Mem → Prop}, n ≤ 5000 → μ[o]? = some (.obj "Blocks" []) → (∀ rb rm rp d μ', BkU o rb rm rp [d] μ' (st0 n) → FrX [o] μ μ' → μ.length ≤ rb → μ.length ≤ rm → μ.length ≤ rp → μ.length ≤ d → Q .non μ') → wpE (g [.ref o, .int (n : Nat)] μ) Q E
theorem init_s {C : Calls} : InitS (runDef 3 (b_Blocks_init C)) := by
  constructor
  intro n o μ Q E hn co q
  unfold b_Blocks_init
  have lo := get_lt co
  rw [w_run, s_seq, s_fld]
  walk_at "gos"
  rw [w_mulRep get_snoc (by omega)]
  have co2 : (μ ++ [Cell.lst [U.int 0]] ++ [Cell.lst (List.replicate n (U.int 0))])[o]? = some (.obj "Blocks" []) := get_snoc_lt (get_snoc_lt co)
  have cb2 : (μ ++ [Cell.lst [U.int 0]] ++ [Cell.lst (List.replicate n (U.int 0))])[μ.length + 1]? = some (.lst (List.replicate n (U.int 0))) := by
    have := get_snoc (μ := μ ++ [Cell.lst [U.int 0]]) (c := Cell.lst (List.replicate n (U.int 0)))
    simpa using this
  have f2 : FrX [o] μ (μ ++ [Cell.lst [U.int 0]] ++ [Cell.lst (List.replicate n (U.int 0))]) := FrX.refl.snoc.snoc
  have l2 : (μ ++ [Cell.lst [U.int 0]] ++ [Cell.lst (List.replicate n (U.int 0))]).length = μ.length + 2 := by simp
  rw [show (μ ++ [Cell.lst [U.int 0]]).length = μ.length + 1 by simp]
  generalize μ ++ [Cell.lst [U.int 0]] ++ [Cell.lst (List.replicate n (U.int 0))] = μ2 at co2 cb2 f2 l2
  refine ⟨_, stO_is co2 (by decide), ?_⟩
  have co3 := get_set (c := .obj "Blocks" (putFU "block_of" (.ref (μ.length + 1)) [])) co2
  have cb3 := get_set_ne (c := .obj "Blocks" (putFU "block_of" (.ref (μ.length + 1)) [])) cb2 (show o ≠ μ.length + 1 by omega)
  have f3 : FrX [o] μ (μ2.set o (.obj "Blocks" (putFU "block_of" (.ref (μ.length + 1)) []))) := f2.put (.inl (by simp))
  have l3 : (μ2.set o (.obj "Blocks" (putFU "block_of" (.ref (μ.length + 1)) []))).length = μ.length + 2 := by simp [l2]
  generalize μ2.set o (.obj "Blocks" (putFU "block_of" (.ref (μ.length + 1)) [])) = μ3 at co3 cb3 f3 l3
  rw [s_fld]
  walk_at "gos"
  generalize hT : sFldS "Blocks" "pending" (fVar 0) (fLst (aCons (fC (U.int 0)) aNil)) = T
  generalize hs : [some (U.ref o), some (U.int (n : Nat)), none] = ss
  refine w_dset ?_
  subst hs hT
  walk_at "gos"
  refine ⟨by simp [okR]; omega, (List.range n).map (fun i => ((i : Nat) : Int)), ?_, by simp; omega, fun i acc => ?_, ?_⟩
  · rw [List.nodup_iff_pairwise_ne, List.pairwise_map]
    exact List.nodup_range.imp fun h e => h (by omega)
  · rw [item_rng, Int.toNat_natCast]
    by_cases h : i < n
    · rw [if_pos h, List.getElem?_map, List.getElem?_map, List.getElem?_range h]; simp
    · rw [if_neg h, List.getElem?_eq_none (by simp; omega)]
  have co4 : (μ3 ++ [Cell.dct (kN ((List.range n).map fun i => ((i : Nat) : Int)))] ++ [Cell.lst [U.ref μ3.length]])[o]? = _ := get_snoc_lt (get_snoc_lt co3)
  have cb4 : (μ3 ++ [Cell.dct (kN ((List.range n).map fun i => ((i : Nat) : Int)))] ++ [Cell.lst [U.ref μ3.length]])[μ.length + 1]? = _ := get_snoc_lt (get_snoc_lt cb3)
  have cd4 : (μ3 ++ [Cell.dct (kN ((List.range n).map fun i => ((i : Nat) : Int)))] ++ [Cell.lst [U.ref μ3.length]])[μ.length + 2]? = some (.dct (kN (iN (List.range n)))) := by
    refine get_snoc_lt ?_
    rw [← l3]
    exact get_snoc
  have cm4 : (μ3 ++ [Cell.dct (kN ((List.range n).map fun i => ((i : Nat) : Int)))] ++ [Cell.lst [U.ref μ3.length]])[μ.length + 3]? = some (.lst [U.ref (μ.length + 2)]) := by
    have := get_snoc (μ := μ3 ++ [Cell.dct (kN ((List.range n).map fun i => ((i : Nat) : Int)))]) (c := Cell.lst [U.ref μ3.length])
    rw [List.length_append, l3] at this
    rw [l3]
    exact this
  have f4 : FrX [o] μ (μ3 ++ [Cell.dct (kN ((List.range n).map fun i => ((i : Nat) : Int)))] ++ [Cell.lst [U.ref μ3.length]]) := f3.snoc.snoc
  have l4 : (μ3 ++ [Cell.dct (kN ((List.range n).map fun i => ((i : Nat) : Int)))] ++ [Cell.lst [U.ref μ3.length]]).length = μ.length + 4 := by simp [l3]
  rw [show (μ3 ++ [Cell.dct (kN ((List.range n).map fun i => ((i : Nat) : Int)))]).length = μ.length + 3 by simp [l3]]
  generalize μ3 ++ [Cell.dct (kN ((List.range n).map fun i => ((i : Nat) : Int)))] ++ [Cell.lst [U.ref μ3.length]] = μ4 at co4 cb4 cd4 cm4 f4 l4
  refine ⟨_, stO_is co4 (by simp [putFU]), ?_⟩
  have co5 := get_set (c := .obj "Blocks" (putFU "members" (.ref (μ.length + 3)) (putFU "block_of" (.ref (μ.length + 1)) []))) co4
  have ne5 : ∀ {k : Nat} {c : Cell}, k ≠ o → μ4[k]? = some c → (μ4.set o (.obj "Blocks" (putFU "members" (.ref (μ.length + 3)) (putFU "block_of" (.ref (μ.length + 1)) []))))[k]? = some c := fun h e => get_set_ne e (Ne.symm h)
  have cb5 := ne5 (by omega) cb4
  have cd5 := ne5 (by omega) cd4
  have cm5 := ne5 (by omega) cm4
  have f5 : FrX [o] μ (μ4.set o (.obj "Blocks" (putFU "members" (.ref (μ.length + 3)) (putFU "block_of" (.ref (μ.length + 1)) [])))) := f4.put (.inl (by simp))
  have l5 : (μ4.set o (.obj "Blocks" (putFU "members" (.ref (μ.length + 3)) (putFU "block_of" (.ref (μ.length + 1)) [])))).length = μ.length + 4 := by simp [l4]
  generalize μ4.set o (.obj "Blocks" (putFU "members" (.ref (μ.length + 3)) (putFU "block_of" (.ref (μ.length + 1)) []))) = μ5 at co5 cb5 cd5 cm5 f5 l5
  try walk_at "gos"
  rw [s_fld]
  walk_at "gos"
  refine ⟨_, stO_is (get_snoc_lt co5) (Nat.lt_of_le_of_lt (putFU_len _ _ _) (by simp [putFU])), ?_⟩
  have co6 := get_set (c := bkC (μ.length + 1) (μ.length + 3) (μ.length + 4)) (get_snoc_lt (c := .lst [U.int 0]) co5)
  have ne6 : ∀ {k : Nat} {c : Cell}, k ≠ o → (μ5 ++ [Cell.lst [U.int 0]])[k]? = some c → ((μ5 ++ [Cell.lst [U.int 0]]).set o (bkC (μ.length + 1) (μ.length + 3) (μ.length + 4)))[k]? = some c := fun h e => get_set_ne e (Ne.symm h)
  rw [l5]
  show Q .non ((μ5 ++ [Cell.lst [U.int 0]]).set o (bkC (μ.length + 1) (μ.length + 3) (μ.length + 4)))
  refine q (μ.length + 1) (μ.length + 3) (μ.length + 4) (μ.length + 2) _ ⟨co6, ?_, ne6 (by omega) (get_snoc_lt cm5), ?_, rfl, fun i l d h1 h2 => ?_, ?_⟩ ((f5.snoc).put (.inl (by simp))) (by omega) (by omega) (by omega) (by omega)
  · rw [ne6 (by omega) (get_snoc_lt cb5)]
    simp [st0, iN]
  · refine ne6 (by omega) ?_
    rw [← l5]
    exact get_snoc
  · have hi := (List.getElem?_eq_some_iff.mp h2).1
    have : i = 0 := by simp at hi; omega
    subst this
    simp [st0] at h1 h2
    subst h1 h2
    exact ne6 (by omega) (get_snoc_lt cd5)
  · simp only [List.nodup_cons, List.mem_cons, List.not_mem_nil, or_false, not_or, not_false_eq_true, List.nodup_nil, and_true]
    omega
end Le
namespace Le
/-- the states before b from which the letter leads to t -/
def sl (R : List (List Int)) (a t b : Nat) : List Nat := (List.range b).filter fun (s : Nat) => decide (stp R s a = (t : Int))
/-- a dict for each letter, from states to lists of states -/
structure SL (R : List (List Int)) (L d : Nat) (gf : Nat → List (Nat × Nat)) (bd : Nat → Nat) (lo : Nat) (μ : Mem) : Prop where
  dc : ∀ a, a < L → μ[d + 1 + a]? = some (.dct (kuG (gf a)))
  cell : ∀ a, a < L → ∀ p ∈ gf a, lo ≤ p.2 ∧ μ[p.2]? = some (.lst ((iN (sl R a p.1 (bd a))).map U.int))
  nk : ∀ a, a < L → ((gf a).map (·.1)).Nodup
  inj : ∀ a a' p p', a < L → a' < L → p ∈ gf a → p' ∈ gf a' → p.2 = p'.2 → a = a' ∧ p = p'
  all : ∀ a, a < L → ∀ s : Nat, s < bd a → ∀ t : Nat, stp R s a = (t : Int) → ∃ p ∈ gf a, p.1 = t
  len : ∀ a, a < L → (gf a).length ≤ bd a
structure SrcS (g : List U → Mem → Res U) : Prop where
  ap : ∀ {L n : Nat} {R : List (List Int)} {A : List Bool} {r1 : Nat} {ua : U} {μ : Mem} {Q : U → Mem → Prop} {E : Str → Mem → Prop}, McU L n μ (.ref r1) ua R A → (∀ (us : List U) (i : Nat) (w : U), seqU μ (.ref r1) = some us → us[i]? = some w → ∃ r, w = U.ref r) →
    (∀ gf μ', Fr μ μ' → μ'[μ.length]? = some (.lst ((List.range L).map fun t => U.ref (μ.length + 1 + t))) → SL R L μ.length gf (fun _ => n) (μ.length + 1 + L) μ' → Q (.ref μ.length) μ') → wpE (g [.int (L : Nat), .ref r1] μ) Q E
theorem kuG_len {gs : List (Nat × Nat)} : (kuG gs).length = gs.length := by simp [kuG]
theorem sl_succ {R : List (List Int)} {a t b : Nat} : sl R a t (b + 1) = sl R a t b ++ (if stp R (b : Nat) a = (t : Int) then [b] else []) := by
  unfold sl
  rw [List.range_succ, List.filter_append]
  congr 1
  by_cases h : stp R (b : Nat) a = (t : Int) <;> simp [h]
theorem sl_len {R : List (List Int)} {a t b : Nat} : (sl R a t b).length ≤ b := by
  have := List.length_filter_le (fun s : Nat => decide (stp R s a = (t : Int))) (List.range b)
  simpa [sl] using this
def srTail (C : Calls) : FS :=
    (sFor (iEnumU (fVar 1)) (.tup [3, 4]) (sFor (iEnumU (fVar 4)) (.tup [5, 6]) (sIf (tstB (fOp uNe (fVar 6) (fNeg (fC (.int 1))))) (sExpr (fMtL gAppend (fSetd (fOp ixU (fVar 2) (fVar 5)) (fVar 6) (fLst aNil)) (aCons (fVar 3) aNil))) sNext)))
theorem sr_is (C : Calls) : b_sources_by_letter C = (sSeq (sAsg (.one 2) (fLc (iRg1 (fVar 0)) [7] (.one 7) tAll fD0))
    (sSeq (srTail C) (sRet (fVar 2)))) := rfl
theorem src_s {C : Calls} : SrcS (runDef 8 (b_sources_by_letter C)) := by
  constructor
  intro L n R A r1 ua μ Q E M hrefs q
  generalize hBB : b_sources_by_letter C = BB
  obtain ⟨us, hu, hul, hrows⟩ := id M.rows
  have hul' : us.length = n := by rw [hul, M.len]
  have hn5 := M.n5
  have hL := M.l1
  have cu : μ[r1]? = some (.lst us) := by
    unfold seqU at hu
    simp only at hu
    cases e : μ[r1]? with
    | none => rw [e] at hu; cases hu
    | some c =>
      rw [e] at hu
      cases c with
      | lst us' => cases hu; rfl
      | _ => cases hu
  subst hBB
  rw [sr_is]
  generalize hT : srTail C = T
  walk_at "gos"
  refine ⟨by simp [okR]; omega, ?_⟩
  rw [Int.toNat_natCast]
  refine lc_fresh (e := fD0) (c0 := .dct []) (k := 7) ((List.range L).map fun i => U.int ((i : Nat) : Int)) (by simp; omega) (fun s μ => e_d0 s μ) (fun μ' f i => ?_) fun μ1 f1 l1 cd cz => ?_
  · rw [item_rng]
    by_cases h : i < L
    · rw [if_pos h, List.getElem?_map, List.getElem?_range h]; simp
    · rw [if_neg h, List.getElem?_eq_none (by simp; omega)]
  rw [List.length_map, List.length_range] at cd cz l1
  subst hT
  unfold srTail
  try walk_at "gos"
  rw [w_enum]
  walk_at "gos"
  refine ⟨_, listAt_L (f1.at_ _ _ cu), ?_⟩
  refine for_enum us (fun i s' μ' => ∃ (gf : Nat → List (Nat × Nat)) (x3 x4 x5 x6 : Option U), s' = [some (.int (L : Nat)), some (.ref r1), some (.ref μ.length), x3, x4, x5, x6, none] ∧ Fr μ μ' ∧ μ1.length ≤ μ'.length ∧ μ'[μ.length]? = some (.lst ((List.range L).map fun t => U.ref (μ.length + 1 + t))) ∧ SL R L μ.length gf (fun _ => i) (μ.length + 1 + L) μ') (by omega)
    ⟨fun _ => [], _, _, _, _, rfl, f1, Nat.le_refl _, cd, ⟨fun a ha => by rw [cz a ha]; rfl, fun a ha p hp => by simp at hp, fun a ha => by simp, fun a a' p p' _ _ h => by simp at h, fun a ha s hs => by omega, fun a ha => by simp⟩⟩
    (fun i s' μ' ⟨_, _, _, _, _, _, f, _⟩ => f.at_ _ _ cu) ?_ ?_
  · rintro i s' μ' hi ⟨gf, x3, x4, x5, x6, rfl, f, lm, cd, S⟩
    have hi' : i < n := by omega
    have hiR : i < R.length := by rw [M.len]; exact hi'
    have hw := hrows i us[i] R[i] (List.getElem?_eq_getElem hi) (List.getElem?_eq_getElem hiR)
    obtain ⟨rr, hrr⟩ := hrefs us i us[i] hu (List.getElem?_eq_getElem hi)
    obtain ⟨hrl, hrt⟩ := M.wf.row _ (List.getElem_mem hiR)
    have gR : ∀ a (h : a < R[i].length), stp R (i : Nat) a = R[i][a] := fun a h => by
      rw [stp_get (by omega), Int.toNat_natCast, List.getD_eq_getElem?_getD (l := R), List.getElem?_eq_getElem hiR]
      simp [List.getD_eq_getElem?_getD, List.getElem?_eq_getElem h]
    rw [hrr] at hw
    have cw : μ[rr]? = some (.lst (R[i].map U.int)) := by
      unfold seqU at hw
      simp only at hw
      cases e : μ[rr]? with
      | none => rw [e] at hw; cases hw
      | some c =>
        rw [e] at hw
        cases c with
        | lst us' => cases hw; rfl
        | _ => cases hw
    refine ⟨[some (.int (L : Nat)), some (.ref r1), some (.ref μ.length), some (.int (i : Nat)), some (.ref rr), x5, x6, none], by rw [hrr]; rfl, ?_⟩
    walk_at "gos"
    rw [w_enum]
    walk_at "gos"
    refine ⟨_, listAt_L (f.at_ _ _ cw), ?_⟩
    refine for_enum (R[i].map U.int) (fun k s' μ' => ∃ (gf : Nat → List (Nat × Nat)) (x5 x6 : Option U), s' = [some (.int (L : Nat)), some (.ref r1), some (.ref μ.length), some (.int (i : Nat)), some (.ref rr), x5, x6, none] ∧ Fr μ μ' ∧ μ1.length ≤ μ'.length ∧ μ'[μ.length]? = some (.lst ((List.range L).map fun t => U.ref (μ.length + 1 + t))) ∧
        SL R L μ.length gf (fun a => if a < k then i + 1 else i) (μ.length + 1 + L) μ') (by simp; omega)
      ⟨gf, _, _, rfl, f, lm, cd, by simpa using S⟩ (fun k s' μ' ⟨_, _, _, _, f, _⟩ => f.at_ _ _ cw) ?_ ?_
    · rintro k s' μ2 hk ⟨gf, x5, x6, rfl, f, lm, cd, S⟩
      have hk' : k < R[i].length := by simpa using hk
      have hkL : k < L := by omega
      rw [List.getElem_map]
      have hst := gR k hk'
      have ht := hrt _ (List.getElem_mem hk')
      generalize R[i][k] = tt at hst ht
      refine ⟨[some (.int (L : Nat)), some (.ref r1), some (.ref μ.length), some (.int (i : Nat)), some (.ref rr), some (.int (k : Nat)), some (.int tt), none], rfl, ?_⟩
      have bdk : ∀ a, a ≠ k → (if a < k + 1 then i + 1 else i) = (if a < k then i + 1 else i) := fun a h => by
        by_cases h2 : a < k
        · rw [if_pos h2, if_pos (by omega)]
        · rw [if_neg h2, if_neg (by omega)]
      have bk0 : (if k < k then i + 1 else i) = i := if_neg (by omega)
      have bk1 : (if k < k + 1 then i + 1 else i) = i + 1 := if_pos (by omega)
      walk_at "gos"
      by_cases h1 : tt = -1
      · subst h1
        walk_at "go"
        refine ⟨gf, _, _, rfl, f, lm, cd, ⟨S.dc, fun a ha p hp => ?_, S.nk, S.inj, fun a ha s hs t e => ?_, fun a ha => ?_⟩⟩
        · have := S.cell a ha p hp
          by_cases h : a = k
          · subst h
            rw [bk0] at this
            rw [bk1, sl_succ, hst, if_neg (by omega), List.append_nil]
            exact this
          · rw [bdk a h]; exact this
        · by_cases h : a = k
          · subst h
            rw [bk1] at hs
            by_cases h2 : s = i
            · subst h2; rw [hst] at e; omega
            · exact S.all a ha s (by rw [bk0]; omega) t e
          · rw [bdk a h] at hs
            exact S.all a ha s hs t e
        · have := S.len a ha
          by_cases h : a = k
          · subst h; rw [bk1]; rw [bk0] at this; omega
          · rw [bdk a h]; exact this
      · obtain ⟨t, rfl⟩ := Int.eq_ofNat_of_zero_le (a := tt) (by omega)
        simp (config := {decide := true}) only [h1, w_run, w_geXI, w_geXP, w_lz, w_op, w_isi, Dg.wipeU, w_powI, w_intB, w_sl, w_oNone, w_oSome, w_slT, w_slF, w_ixF, w_lenF, w_abs, w_max2, w_min2, w_fdivI, w_neg, w_andE, w_orE, w_notE, w_chain, w_c, w_var, w_call, w_def, w_anil, w_acons, w_tup, w_lst, w_int, w_intB, w_lenT, w_addI, w_subI, w_modI, w_mulI, w_ltI, w_leI, w_gtI, w_geI, w_eq, w_ne, w_ixT, w_if, w_nt, w_an, w_or, w_all, w_tstB, w_tst, w_app, w_lc, w_for, w_iseqT, w_rg1, w_rev1, w_d0, Dg.eq_str, Dg.eq_int, s_seq, s_next, s_brk, s_cnt, s_expr, s_ret, s_retN, s_if, w_getE, w_items, w_keys, w_fmt, w_js0, w_js, s_asg1, s_store, s_tryAs, s_try, w_isX, s_raise, List.map_cons, List.map_nil, List.cons_append, List.nil_append, List.length_cons, List.length_nil, List.replicate_succ, List.replicate_zero, Nat.add_sub_cancel, Nat.sub_self, Nat.sub_zero, Nat.reduceAdd, Nat.reduceSub, Nat.zero_add, List.set_cons_succ, List.set_cons_zero, List.getElem?_cons_zero, List.getElem?_cons_succ, Option.some.injEq, exists_eq_left', exists_eq_left, exists_eq_right', U.bl.injEq, U.int.injEq, U.ref.injEq, U.str.injEq, atI_0, atI_1, atI_2, atI_3, atI_4, atI_5, if_true, if_false, true_and, and_true, decide_true, decide_false, Bool.not_true, Bool.not_false, reduceCtorEq, ite_true, ite_false, decide_eq_true_eq, Bool.true_eq_false, Bool.false_eq_true]
        have cdk := S.dc k hkL
        rw [w_setd]
        walk_at "gos"
        rw [w_ixL cd, Dg.atI_nat, List.getElem?_map, List.getElem?_range hkL]
        refine ⟨_, rfl, ⟨_, dct_D cdk⟩, ?_⟩
        have glen := S.len k hkL
        rw [bk0] at glen
        have cdk1 := get_snoc_lt (c := .lst []) cdk
        have hl2 := get_lt cdk
        refine ⟨_, _, _, rfl, rfl, cdk1, by rw [kuG_len]; simp only [lim]; omega, ?_⟩
        rw [val_kuG]
        cases hf : (gf k).find? (fun p => decide (p.1 = t)) with
        | some p =>
          have hpm := List.mem_of_find?_eq_some hf
          have hpk : p.1 = t := by have := List.find?_some hf; simpa using this
          obtain ⟨b1, b2⟩ := S.cell k hkL p hpm
          rw [bk0] at b2
          have b3 := get_snoc_lt (c := .lst []) b2
          simp only [Option.map_some]
          refine ⟨_, lstU_L b3, ?_⟩
          have hsl := sl_len (R := R) (a := k) (t := p.1) (b := i)
          rw [w_append b3 (by rw [List.length_map, iN_len]; simp only [lim]; omega)]
          refine ⟨gf, _, _, rfl, (f.snoc).put (by omega), by simp; omega, get_set_ne (get_snoc_lt cd) (by omega), ⟨fun a ha => get_set_ne (get_snoc_lt (S.dc a ha)) (by omega), fun a ha p' hp' => ?_, S.nk, S.inj, fun a ha s hs t' e => ?_, fun a ha => ?_⟩⟩
          · obtain ⟨d1, d2⟩ := S.cell a ha p' hp'
            refine ⟨d1, ?_⟩
            by_cases h : a = k ∧ p' = p
            · obtain ⟨rfl, rfl⟩ := h
              rw [get_set b3, bk1, sl_succ, hst, if_pos (by omega)]
              simp [iN]
            · have hne : p'.2 ≠ p.2 := fun e => h (S.inj a k p' p ha hkL hp' hpm e)
              rw [get_set_ne (get_snoc_lt d2) (Ne.symm hne)]
              by_cases h2 : a = k
              · subst h2
                have hne1 : p'.1 ≠ p.1 := by
                  intro e
                  obtain ⟨i1, h3, e1⟩ := List.getElem_of_mem hp'
                  obtain ⟨i2, h4, e2⟩ := List.getElem_of_mem hpm
                  have := Dg.nodup_inj (S.nk a ha) (i := i1) (j := i2) (by simpa using h3) (by simpa using h4) (by simp [e1, e2, e])
                  subst this
                  exact h ⟨rfl, e1.symm.trans e2⟩
                rw [bk0, bk1, sl_succ, hst, if_neg (by rw [← hpk]; omega), List.append_nil]
              · rw [bdk a h2]
          · by_cases h : a = k
            · subst h
              rw [bk1] at hs
              by_cases h2 : s = i
              · subst h2
                rw [hst] at e
                exact ⟨p, hpm, by omega⟩
              · exact S.all a ha s (by rw [bk0]; omega) t' e
            · rw [bdk a h] at hs
              exact S.all a ha s hs t' e
          · have := S.len a ha
            by_cases h : a = k
            · subst h; rw [bk1]; rw [bk0] at this; omega
            · rw [bdk a h]; exact this
        | none =>
          simp only [Option.map_none]
          have hnone : ∀ p ∈ gf k, p.1 ≠ t := fun p hp e => by
            have := List.find?_eq_none.mp hf p hp
            exact this (by simp [e])
          have hput : putU (kuG (gf k)) (.inl (t : Int)) (.ref μ2.length) = kuG (gf k ++ [(t, μ2.length)]) := by
            rw [put_new (by rw [val_kuG, hf]; rfl)]
            unfold kuG
            simp
          rw [hput]
          have cz' : ((μ2 ++ [Cell.lst []]).set (μ.length + 1 + k) (.dct (kuG (gf k ++ [(t, μ2.length)]))))[μ2.length]? = some (.lst []) := get_set_ne get_snoc (by omega)
          refine ⟨_, lstU_L cz', ?_⟩
          rw [w_append cz' (by simp [lim])]
          have empty : sl R k t i = [] := by
            unfold sl
            rw [List.filter_eq_nil_iff]
            intro y hy
            simp only [decide_eq_true_eq]
            intro e2
            obtain ⟨p, hp, e⟩ := S.all k hkL y (by rw [bk0]; exact List.mem_range.mp hy) t e2
            exact hnone p hp e
          refine ⟨fun a => if a = k then gf k ++ [(t, μ2.length)] else gf a, _, _, rfl, ((f.snoc).put (by omega)).put (by have := f.le; omega), by simp; omega, get_set_ne (get_set_ne (get_snoc_lt cd) (by omega)) (by omega), ⟨fun a ha => ?_, fun a ha p' hp' => ?_, fun a ha => ?_, fun a a' p p' ha ha' hp hp' e => ?_, fun a ha s hs t' e => ?_, fun a ha => ?_⟩⟩
          · by_cases h : a = k
            · subst h
              rw [if_pos rfl]
              exact get_set_ne (get_set cdk1) (by omega)
            · rw [if_neg h]
              exact get_set_ne (get_set_ne (get_snoc_lt (S.dc a ha)) (by omega)) (by have := get_lt (S.dc a ha); omega)
          · have old : p' ∈ gf a → μ.length + 1 + L ≤ p'.2 ∧ ((((μ2 ++ [Cell.lst []]).set (μ.length + 1 + k) (.dct (kuG (gf k ++ [(t, μ2.length)])))).set μ2.length (.lst ([] ++ [.int (i : Nat)])))[p'.2]? = some (.lst ((iN (sl R a p'.1 (if a < k + 1 then i + 1 else i))).map U.int))) := by
              intro hq
              obtain ⟨d1, d2⟩ := S.cell a ha p' hq
              refine ⟨d1, ?_⟩
              have := get_lt d2
              rw [get_set_ne (get_set_ne (get_snoc_lt d2) (by omega)) (by omega)]
              by_cases h : a = k
              · subst h
                rw [bk0, bk1, sl_succ, hst, if_neg (by have := hnone p' hq; omega), List.append_nil]
              · rw [bdk a h]
            by_cases h : a = k
            · subst h
              rw [if_pos rfl] at hp'
              rcases List.mem_append.mp hp' with hp' | hp'
              · exact old hp'
              · simp at hp'; subst hp'
                refine ⟨by omega, ?_⟩
                simp only
                rw [get_set cz', bk1, sl_succ, hst, if_pos rfl, empty]
                rfl
            · rw [if_neg h] at hp'
              exact old hp'
          · by_cases h : a = k
            · subst h
              rw [if_pos rfl, List.map_append, List.nodup_append]
              exact ⟨S.nk a ha, by simp, fun x hx y hy => by
                simp at hy; subst hy
                obtain ⟨p, hp, rfl⟩ := List.mem_map.mp hx
                exact hnone p hp⟩
            · rw [if_neg h]; exact S.nk a ha
          · have lt' : ∀ {a p}, a < L → p ∈ gf a → p.2 < μ2.length := fun ha hp => get_lt (S.cell _ ha _ hp).2
            have cases_ : ∀ {a p}, a < L → p ∈ (if a = k then gf k ++ [(t, μ2.length)] else gf a) → p ∈ gf a ∨ (a = k ∧ p = (t, μ2.length)) := by
              intro a p ha hp
              by_cases h : a = k
              · subst h
                rw [if_pos rfl] at hp
                rcases List.mem_append.mp hp with hp | hp
                · exact .inl hp
                · simp at hp; exact .inr ⟨rfl, hp⟩
              · rw [if_neg h] at hp; exact .inl hp
            rcases cases_ ha hp with h1 | ⟨h1, h2⟩
            · rcases cases_ ha' hp' with h3 | ⟨h3, h4⟩
              · exact S.inj a a' p p' ha ha' h1 h3 e
              · have := lt' ha h1; rw [h4] at e; simp at e; omega
            · rcases cases_ ha' hp' with h3 | ⟨h3, h4⟩
              · have := lt' ha' h3; rw [h2] at e; simp at e; omega
              · exact ⟨by omega, by rw [h2, h4]⟩
          · by_cases h : a = k
            · subst h
              rw [bk1] at hs
              rw [if_pos rfl]
              by_cases h2 : s = i
              · subst h2
                rw [hst] at e
                exact ⟨_, List.mem_append_right _ (List.mem_singleton.mpr rfl), by simp only; omega⟩
              · obtain ⟨p, a1, a2⟩ := S.all a ha s (by rw [bk0]; omega) t' e
                exact ⟨p, List.mem_append_left _ a1, a2⟩
            · rw [bdk a h] at hs
              rw [if_neg h]
              exact S.all a ha s hs t' e
          · by_cases h : a = k
            · subst h
              rw [bk1, if_pos rfl]; simp; omega
            · rw [if_neg h, bdk a h]; exact S.len a ha
    · rintro s' μ2 ⟨gf, x5, x6, rfl, f, lm, cd, S⟩
      rw [List.length_map, hrl] at S
      try walk_at "gos"
      refine ⟨gf, _, _, _, _, rfl, f, lm, cd, ⟨S.dc, fun a ha p hp => ?_, S.nk, S.inj, fun a ha s hs => ?_, fun a ha => ?_⟩⟩
      · have := S.cell a ha p hp; rwa [if_pos ha] at this
      · have := S.all a ha s; rw [if_pos ha] at this; exact this hs
      · have := S.len a ha; rwa [if_pos ha] at this
  · rintro s' μ2 ⟨gf, x3, x4, x5, x6, rfl, f, lm, cd, S⟩
    rw [hul'] at S
    try walk_at "gos"
    exact q gf μ2 f cd S
end Le
namespace Le
/-- the blocks while they are split -/
structure WI (n L : Nat) (R : List (List Int)) (A : List Bool) (o rb rm rp : Nat) (ds : List Nat) (μ1 μ : Mem) (S : St) : Prop where
  b : BkU o rb rm rp ds μ S
  ok : S.ok n
  pd : S.pd.length ≤ S.ms.length
  resp : ∀ s t : Nat, s < n → t < n → (∀ w, lng R A s w = lng R A t w) → S.β s = S.β t
  acc : ∀ s t : Nat, s < n → t < n → S.β s = S.β t → end_ A s = end_ A t
  fr : Fr μ1 μ
  lo : ∀ x ∈ (o :: rb :: rm :: rp :: ds), μ1.length ≤ x
def blTail (C : Calls) : FS :=
    (sSeq (sWhile (tst (fFld "Blocks" "pending" (fVar 4))) (sSeq (sAsg (.one 5) (fCall bListD (aCons (fOp ixU (fFld "Blocks" "members" (fVar 4)) (fMtL gPop (fFld "Blocks" "pending" (fVar 4)) aNil)) aNil)))
    (sFor (iSeq (fVar 3)) (.one 6) (sExpr (fMeth "Blocks" "split_by" 2 (C 5) (fVar 4) (aCons (fLc2 (iSeq (fVar 5)) [8, 7] (.one 8) (iSeq (fGet (fVar 6) (fVar 8) (fLst aNil))) [7] (.one 7) (fVar 7)) aNil))))) fuelF)
    (sRet (fVar 4)))
theorem bl_is (C : Calls) : b_blocks_of C = (sSeq (sAsg (.one 3) (fDef 2 (C 6) (aCons (fVar 0) (aCons (fVar 1) aNil))))
    (sSeq (sAsg (.one 4) (fMake "Blocks" 2 (C 3) (aCons (fCall bLen (aCons (fVar 1) aNil)) aNil)))
    (sSeq (sExpr (fMeth "Blocks" "split_by" 2 (C 5) (fVar 4) (aCons (fLc (iRg1 (fCall bLen (aCons (fVar 1) aNil))) [7] (.one 7) (tst (fOp ixU (fVar 2) (fVar 7))) (fVar 7)) aNil)))
    (blTail C)))) := rfl
section
variable {n L d : Nat} {R : List (List Int)} {A : List Bool} {o rb rm rp : Nat} {ds : List Nat} {μ1 μ : Mem} {S : St} {gf : Nat → List (Nat × Nat)}
/-- the states from which a letter leads to one of T -/
def pre (R : List (List Int)) (n a : Nat) (T : List Nat) : List Nat := T.flatMap fun t => sl R a t n
theorem pre_mem {a : Nat} {T : List Nat} {s : Nat} : s ∈ pre R n a T ↔ s < n ∧ 0 ≤ stp R s a ∧ (stp R s a).toNat ∈ T := by
  unfold pre
  rw [List.mem_flatMap]
  constructor
  · rintro ⟨t, ht, h⟩
    unfold sl at h
    rw [List.mem_filter, List.mem_range] at h
    have e := of_decide_eq_true h.2
    exact ⟨h.1, by omega, by rw [e, Int.toNat_natCast]; exact ht⟩
  · rintro ⟨h1, h2, h3⟩
    refine ⟨_, h3, ?_⟩
    unfold sl
    rw [List.mem_filter, List.mem_range]
    exact ⟨h1, decide_eq_true (by omega)⟩
theorem pre_nodup {a : Nat} : ∀ {T : List Nat}, T.Nodup → (pre R n a T).Nodup
  | [], _ => by simp [pre]
  | t :: T, h => by
    rw [List.nodup_cons] at h
    have e : pre R n a (t :: T) = sl R a t n ++ pre R n a T := by simp [pre]
    rw [e, List.nodup_append]
    refine ⟨List.nodup_range.filter _, pre_nodup h.2, fun x hx y hy => ?_⟩
    rintro rfl
    have h1 := (pre_mem.mp hy).2.2
    unfold sl at hx
    have e2 := of_decide_eq_true (List.mem_filter.mp hx).2
    rw [e2, Int.toNat_natCast] at h1
    exact h.1 h1
/-- one letter -/
theorem lc2_pre {a rt : Nat} {T : List Nat} {s : Slots} {Q : U → Mem → Prop} {E : Str → Mem → Prop} (SLs : SL R L d gf (fun _ => n) (d + 1 + L) μ) (ha : a < L) (hn : n ≤ 5000) (hT : T.Nodup) (ltT : ∀ t ∈ T, t < n) (s5 : s[5]? = some (some (.ref rt))) (s6 : s[6]? = some (some (.ref (d + 1 + a)))) (sl9 : s.length = 9)
    (ct : μ[rt]? = some (.lst ((iN T).map U.int))) (q : ∀ μ', Fr μ μ' → μ'[μ.length]? = some (.lst ((iN (pre R n a T)).map U.int)) → Q (.ref μ.length) μ') :
    wpE (fLc2 (iSeq (fVar 5)) [8, 7] (.one 8) (iSeq (fGet (fVar 6) (fVar 8) (fLst aNil))) [7] (.one 7) (fVar 7) s μ) Q E := by
  rw [w_lc2]
  refine w_iseqS ?_
  rw [w_var]
  refine ⟨_, s5, _, seq_Ls ct, fun j hj => ?_⟩
  have few : T.length ≤ n := by
    have := hT.length_le_of_subset (l₂ := List.range n) fun x hx => List.mem_range.mpr (ltT x hx)
    simpa using this
  have fewp : (pre R n a T).length ≤ n := by
    have := (pre_nodup (R := R) (n := n) (a := a) hT).length_le_of_subset (l₂ := List.range n) fun x hx => List.mem_range.mpr (pre_mem.mp hx).1
    simpa using this
  have e0 : T.flatMap (fun t => (iN (sl R a t n)).map U.int) = (iN (pre R n a T)).map U.int := by
    unfold pre iN
    rw [List.map_map, List.map_flatMap]
    congr 1
    funext t
    rw [List.map_map]
  refine lc2_fm T (fun t => U.int ((t : Nat) : Int)) (fun t => (iN (sl R a t n)).map U.int) (fun μ' => Fr μ μ') (by omega) (by rw [e0, List.length_map, iN_len]; omega) (fun μ' f i => by rw [hj μ' (seq_Ls (f.at_ _ _ ct)) i, iN_map]) (fun μ' c f => f.put (Nat.le_refl _)) (fun t ht μ' f ⟨acc, hd⟩ => ?_)
    (fun μ' f c => q μ' f (by rw [c, e0])) Fr.refl.snoc get_snoc
  have hs1 : ((Dg.wipeU s [8, 7]).set 8 (some (U.int (t : Nat))))[6]? = some (some (.ref (d + 1 + a))) := by
    simp only [Dg.wipeU]
    rw [List.getElem?_set_ne (by decide), List.getElem?_set_ne (by decide), List.getElem?_set_ne (by decide)]
    exact s6
  have hs2 : ((Dg.wipeU s [8, 7]).set 8 (some (U.int (t : Nat))))[8]? = some (some (.int (t : Nat))) := by
    rw [List.getElem?_set_self (by simp [Dg.wipeU, sl9])]
  have hlen1 : ((Dg.wipeU s [8, 7]).set 8 (some (U.int (t : Nat)))).length = 9 := by simp [Dg.wipeU, sl9]
  refine ⟨_, rfl, ?_⟩
  generalize (Dg.wipeU s [8, 7]).set 8 (some (U.int (t : Nat))) = s1 at hs1 hs2 hlen1
  have cdk := f.at_ _ _ (SLs.dc a ha)
  refine w_iseqS ?_
  rw [w_getE, w_var]
  refine ⟨_, hs1, ⟨_, rd_D cdk⟩, ?_⟩
  rw [w_var]
  refine ⟨_, hs2, ?_⟩
  rw [w_lst, w_anil]
  have hdl := get_lt hd
  have elem : ∀ (xs : List Nat) (μ4 : Mem) (i : Nat) (h : i < ((iN xs).map U.int).length), ∃ s2, setT (.one 7) ((iN xs).map U.int)[i] (Dg.wipeU s1 [7]) = some s2 ∧ fVar 7 s2 μ4 = .ok ((iN xs).map U.int)[i] μ4 := by
    intro xs μ4 i h
    refine ⟨_, rfl, ?_⟩
    unfold fVar
    rw [List.getElem?_set_self (by simp [Dg.wipeU, hlen1])]
  refine ⟨by simp [lim], _, _, rd_D (get_snoc_lt cdk), rfl, ?_⟩
  rw [val_kuG]
  cases hf : (gf a).find? (fun p => decide (p.1 = t)) with
  | some p =>
    have hpm := List.mem_of_find?_eq_some hf
    have hpk : p.1 = t := by have := List.find?_some hf; simpa using this
    obtain ⟨b1, b2⟩ := SLs.cell a ha p hpm
    rw [hpk] at b2
    simp only [Option.map_some, Option.getD_some]
    refine ⟨_, seq_Ls (get_snoc_lt (f.at_ _ _ b2)), fun j2 hj2 => ⟨fun μ4 => Fr μ μ4, f.snoc, fun μ4 h => h, fun μ4 c h => h.put (Nat.le_refl _), ?_, fun μ4 h i => hj2 μ4 (seq_Ls (h.at_ _ _ b2)) i, fun μ4 h i hi => elem _ μ4 i hi⟩⟩
    rw [List.getElem?_append_left hdl]
  | none =>
    have hnone : ∀ p ∈ gf a, p.1 ≠ t := fun p hp e => by
      have := List.find?_eq_none.mp hf p hp
      exact this (by simp [e])
    have empty : sl R a t n = [] := by
      unfold sl
      rw [List.filter_eq_nil_iff]
      intro y hy
      simp only [decide_eq_true_eq]
      intro e2
      obtain ⟨p, hp, e⟩ := SLs.all a ha y (List.mem_range.mp hy) t e2
      exact hnone p hp e
    simp only [Option.map_none, Option.getD_none]
    have cnew : (μ' ++ [Cell.lst []])[μ'.length]? = some (.lst []) := get_snoc
    refine ⟨_, seq_Ls cnew, fun j2 hj2 => ⟨fun μ4 => Fr μ μ4 ∧ μ4[μ'.length]? = some (.lst []), ⟨f.snoc, cnew⟩, fun μ4 h => h.1, fun μ4 c h => ⟨h.1.put (Nat.le_refl _), get_set_ne h.2 (by omega)⟩, ?_, fun μ4 h i => ?_, fun μ4 h i hi => elem _ μ4 i hi⟩⟩
    · rw [List.getElem?_append_left hdl]
    · rw [hj2 μ4 (seq_Ls h.2) i, empty]
      rfl
end
theorem sd_step {n L : Nat} {R : List (List Int)} {A : List Bool} {o rb rm rp : Nat} {ds ds' : List Nat} {μ1 μ μ' : Mem} {S S' : St} {X : List Nat} (W : WI n L R A o rb rm rp ds μ1 μ S) (Z : Spd n S S' X) (B : BkU o rb rm rp ds' μ' S') (f : FrX (o :: rb :: rm :: rp :: ds) μ μ') (hd : ∀ d ∈ ds', d ∈ ds ∨ μ.length ≤ d)
    (hX : ∀ s t : Nat, s < n → t < n → (∀ w, lng R A s w = lng R A t w) → (s ∈ X ↔ t ∈ X)) : WI n L R A o rb rm rp ds' μ1 μ' S' := by
  have lo' := W.lo
  refine ⟨B, Z.ok, by have := Z.cnt; have := W.pd; omega, fun s t hs ht h => Z.only s t hs ht (W.resp s t hs ht h) (hX s t hs ht h), fun s t hs ht e => W.acc s t hs ht (Z.rf.ref s t hs ht e), ⟨by have := W.fr.le; have := f.1; omega, fun i c e => f.2 i c (fun h => by have := lo' i h; have := get_lt e; omega) (W.fr.at_ i c e)⟩, fun x hx => ?_⟩
  simp only [List.mem_cons] at hx lo'
  rcases hx with h | h | h | h | h
  · exact lo' x (.inl h)
  · exact lo' x (.inr (.inl h))
  · exact lo' x (.inr (.inr (.inl h)))
  · exact lo' x (.inr (.inr (.inr (.inl h))))
  · rcases hd x h with h | h
    · exact lo' x (.inr (.inr (.inr (.inr h))))
    · have := W.fr.le; omega
theorem bl_end {C : Calls} (h5 : SplitS (C 5)) {n L d : Nat} {R : List (List Int)} {A : List Bool} {o rb rm rp : Nat} {ds : List Nat} {μ0 μ1 μ : Mem} {S : St} {gf : Nat → List (Nat × Nat)} {u0 u1 u2 : U} {D : Dn} {x5 x6 x7 x8 : Option U} (wf : Wf L R A) (hR : R.length = n) (hn : n ≤ 5000) (hL : L ≤ 1000) (lv : ∀ i : Nat, i < n → ∃ w, lng R A i w = true)
    (W : WI n L R A o rb rm rp ds μ1 μ S) (H : Hop R S [] []) (SLs : SL R L d gf (fun _ => n) (d + 1 + L) μ1) (cdd : μ1[d]? = some (.lst ((List.range L).map fun t => U.ref (d + 1 + t))))
    (q : ∀ ds' μ' S', WI n L R A o rb rm rp ds' μ1 μ' S' → (∀ s t : Nat, s < n → t < n → (S'.β s = S'.β t ↔ ∀ w, lng R A s w = lng R A t w)) → D.rt (.ref o) μ') :
    Dg.wpS (blTail C [some u0, some u1, some u2, some (.ref d), some (.ref o), x5, x6, x7, x8] μ) D := by
  unfold blTail
  have few := W.ok.few
  have pd0 := W.pd
  rw [s_seq]
  refine while_go (fun m s' μ' => ∃ (x5 x6 x7 x8 : Option U) (ds : List Nat) (S : St), s' = [some u0, some u1, some u2, some (.ref d), some (.ref o), x5, x6, x7, x8] ∧ WI n L R A o rb rm rp ds μ1 μ' S ∧ Hop R S [] [] ∧ S.pd.length + (n - S.ms.length) = m) (m := S.pd.length + (n - S.ms.length)) (by omega)
    ⟨x5, x6, x7, x8, ds, S, rfl, W, H, rfl⟩ ?_
  rintro m s' μ' ⟨x5, x6, x7, x8, ds, S, rfl, W, H, hm⟩
  walk_at "gos"
  refine q_pe rfl W.b.ob ?_
  refine ⟨_, truL W.b.cp, ?_⟩
  have ndX := W.b.nd
  simp only [List.nodup_cons, List.mem_cons, not_or] at ndX
  obtain ⟨⟨k1, k2, k3, k4⟩, ⟨k5, k6, k7⟩, ⟨k8, k9⟩, k10, k11⟩ := ndX
  by_cases hpe : S.pd = []
  · rw [hpe]
    simp only [iN, List.map_nil, List.isEmpty_nil, Bool.not_true]
    walk_at "gos"
    refine q ds μ' S W fun s t hs ht => ⟨fun e w => ?_, W.resp s t hs ht⟩
    subst hR
    exact Hop.end wf H hpe W.acc w s t hs ht e
  · obtain ⟨P, Cb, hP⟩ : ∃ P Cb, S.pd = P ++ [Cb] := ⟨S.pd.dropLast, S.pd.getLast hpe, (List.dropLast_concat_getLast hpe).symm⟩
    rw [if_pos (by rw [hP]; simp [iN])]
    refine ⟨m - 1, by rw [hP] at hm; simp at hm; omega, ?_⟩
    try walk_at "gos"
    refine q_me rfl W.b.ob ?_
    refine q_pe rfl W.b.ob ?_
    have cp := W.b.cp
    rw [hP] at cp
    rw [show (iN (P ++ [Cb])).map U.int = (iN P).map U.int ++ [U.int ((Cb : Nat) : Int)] by simp [iN]] at cp
    refine ⟨_, lstU_L cp, ?_⟩
    rw [w_pop cp]
    have hCb : Cb < S.ms.length := W.ok.pd Cb (by rw [hP]; simp)
    have hCd : Cb < ds.length := by rw [W.b.dl]; exact hCb
    have hdm : ds[Cb] ∈ ds := List.getElem_mem hCd
    have ne : ∀ {k : Nat} {c : Cell}, k ≠ rp → μ'[k]? = some c → (μ'.set rp (.lst ((iN P).map U.int)))[k]? = some c := fun h e => get_set_ne e (Ne.symm h)
    have hsl : S.ms[Cb]? = some S.ms[Cb] := List.getElem?_eq_getElem hCb
    have cdT := ne (fun e => k10 (e ▸ hdm) : ds[Cb] ≠ rp) (W.b.cd Cb _ _ hsl (List.getElem?_eq_getElem hCd))
    have B1 : BkU o rb rm rp ds (μ'.set rp (.lst ((iN P).map U.int))) ⟨S.bo, S.ms, P⟩ := ⟨ne k3 W.b.ob, ne k6 W.b.cb, ne k8 W.b.cm, get_set cp, W.b.dl, fun i l d h1 h2 => ne (fun e => k10 (e ▸ List.mem_of_getElem? h2)) (W.b.cd i l d h1 h2), W.b.nd⟩
    have f1 : Fr μ1 (μ'.set rp (.lst ((iN P).map U.int))) := W.fr.put (W.lo rp (by simp))
    have l1 : (μ'.set rp (.lst ((iN P).map U.int))).length = μ'.length := by simp
    rw [w_ixL B1.cm, Dg.atI_nat, List.getElem?_map, List.getElem?_eq_getElem hCd]
    refine ⟨_, rfl, ?_⟩
    rw [w_listD cdT]
    -- the pure side of the pop
    have hmem := W.ok.mem Cb _ hsl
    have hTnd := W.ok.nd _ (List.getElem_mem hCb)
    generalize hTT : S.ms[Cb] = T at hsl cdT hmem hTnd
    have ok1 : (St.ok n ⟨S.bo, S.ms, P⟩) := ⟨W.ok.bl, W.ok.mem, W.ok.nd, W.ok.ne, W.ok.lt, fun b hb => W.ok.pd b (by rw [hP]; simp [hb])⟩
    have hop1 : Hop R ⟨S.bo, S.ms, P⟩ ((List.range L).drop 0) T := by
      intro s t hs ht e a hne
      have inT : ∀ z : Int, z < n → inP S z → inP ⟨S.bo, S.ms, P⟩ z ∨ (0 ≤ z ∧ z.toNat ∈ T) := by
        rintro z hz ⟨h0, h1⟩
        rw [hP] at h1
        rcases List.mem_append.mp h1 with h | h
        · exact .inl ⟨h0, h⟩
        · exact .inr ⟨h0, (hmem _).mpr ⟨by omega, by simpa using h⟩⟩
      have b1 := wf.stp_in (s := (s : Int)) (a := a)
      have b2 := wf.stp_in (s := (t : Int)) (a := a)
      have ha : a ∈ (List.range L).drop 0 := by
        rw [List.drop_zero, List.mem_range]
        rcases Nat.lt_or_ge a L with h | h
        · exact h
        · exact absurd (by rw [wf.stp_big h, wf.stp_big h]) hne
      rcases H s t hs ht e a hne with (h | h) | ⟨h, _⟩
      · rcases inT _ (by omega) h with h | h
        · exact .inl (.inl h)
        · exact .inr ⟨ha, .inl h⟩
      · rcases inT _ (by omega) h with h | h
        · exact .inl (.inr h)
        · exact .inr ⟨ha, .inr h⟩
      · simp at h
    have hopT1 : HopT ⟨S.bo, S.ms, P⟩ T := by
      intro u v hu hv ne
      exact absurd (show S.β u = S.β v by rw [((hmem u).mp hu).2, ((hmem v).mp hv).2]) ne
    have W1 : WI n L R A o rb rm rp ds μ1 (μ'.set rp (.lst ((iN P).map U.int))) ⟨S.bo, S.ms, P⟩ := ⟨B1, ok1, by have := W.pd; rw [hP] at this; simp at this ⊢; omega, W.resp, W.acc, f1, W.lo⟩
    have ltT : ∀ t ∈ T, t < n := fun t ht => ((hmem t).mp ht).1
    have closT : ∀ s t : Nat, s < n → t < n → (∀ w, lng R A s w = lng R A t w) → (s ∈ T ↔ t ∈ T) := fun s t hs ht h => by
      rw [hmem, hmem, W.resp s t hs ht h]
      simp [hs, ht]
    have preT : ∀ (a s t : Nat), s < n → t < n → (∀ w, lng R A s w = lng R A t w) → (s ∈ pre R n a T ↔ t ∈ pre R n a T) := by
      intro a s t hs ht h
      rw [pre_mem, pre_mem]
      have hst : ∀ w, lng R A (stp R s a) w = lng R A (stp R t a) w := fun w => h (a :: w)
      have b1 := wf.stp_in (s := (s : Int)) (a := a)
      have b2 := wf.stp_in (s := (t : Int)) (a := a)
      by_cases c1 : stp R s a < 0
      · by_cases c2 : stp R t a < 0
        · constructor <;> rintro ⟨_, h, _⟩ <;> omega
        · obtain ⟨w, hw⟩ := lv (stp R t a).toNat (by omega)
          rw [Int.toNat_of_nonneg (by omega), ← hst, lng_neg c1] at hw
          cases hw
      · by_cases c2 : stp R t a < 0
        · obtain ⟨w, hw⟩ := lv (stp R s a).toNat (by omega)
          rw [Int.toNat_of_nonneg (by omega), hst, lng_neg c2] at hw
          cases hw
        · have := closT (stp R s a).toNat (stp R t a).toNat (by omega) (by omega) (by rw [Int.toNat_of_nonneg (by omega), Int.toNat_of_nonneg (by omega)]; exact hst)
          constructor
          · rintro ⟨_, _, h3⟩; exact ⟨ht, by omega, this.mp h3⟩
          · rintro ⟨_, _, h3⟩; exact ⟨hs, by omega, this.mpr h3⟩
    have hm1 : P.length + (n - S.ms.length) + 1 = m := by rw [hP] at hm; simp at hm; omega
    -- the memory with the list of targets
    generalize hμ2 : μ'.set rp (.lst ((iN P).map U.int)) = μ2 at B1 f1 l1 W1 cdT
    have cT : (μ2 ++ [Cell.lst ((iN T).map U.int)])[μ2.length]? = some (.lst ((iN T).map U.int)) := get_snoc
    have f3 : Fr μ2 (μ2 ++ [Cell.lst ((iN T).map U.int)]) := Fr.refl.snoc
    have W3 : WI n L R A o rb rm rp ds μ1 (μ2 ++ [Cell.lst ((iN T).map U.int)]) ⟨S.bo, S.ms, P⟩ := ⟨B1.fr f3, ok1, W1.pd, W1.resp, W1.acc, f1.trans f3, W1.lo⟩
    have rtn : μ2.length ∉ (o :: rb :: rm :: rp :: ds) := fun h => by have := B1.lt _ h; omega
    generalize hrt : μ2.length = rt at cT rtn
    generalize μ2 ++ [Cell.lst ((iN T).map U.int)] = μ3 at cT W3
    try walk_at "gos"
    refine w_iseqS ?_
    try walk_at "gos"
    refine ⟨_, seq_Ls (W3.fr.at_ _ _ cdd), fun j hj => ?_⟩
    refine for_it ((List.range L).map fun t => U.ref (d + 1 + t)) (fun i s' μ' => ∃ (x6 x7 x8 : Option U) (ds : List Nat) (S1 : St), s' = [some u0, some u1, some u2, some (.ref d), some (.ref o), some (.ref rt), x6, x7, x8] ∧ WI n L R A o rb rm rp ds μ1 μ' S1 ∧ Hop R S1 ((List.range L).drop i) T ∧ HopT S1 T ∧ μ'[rt]? = some (.lst ((iN T).map U.int)) ∧ rt ∉ (o :: rb :: rm :: rp :: ds) ∧
        S1.pd.length + (n - S1.ms.length) + 1 = m) (by simp; omega) ⟨x6, x7, x8, ds, _, rfl, W3, hop1, hopT1, cT, rtn, hm1⟩ (fun i s' μ4 ⟨_, _, _, _, _, _, W4, _⟩ => hj μ4 (seq_Ls (W4.fr.at_ _ _ cdd)) i) ?_ ?_
    · rintro a s' μ4 ha ⟨x6, x7, x8, ds, S1, rfl, W4, hop4, hopT4, cT4, rt4, m4⟩
      have ha' : a < L := by simpa using ha
      rw [List.getElem_map, List.getElem_range]
      refine ⟨_, rfl, ?_⟩
      have few4 := W4.ok.few
      rw [s_expr, w_meth]
      walk_at "gos"
      refine ⟨_, isO_is W4.b.ob, rfl, ?_⟩
      have SL4 : SL R L d gf (fun _ => n) (d + 1 + L) μ4 := ⟨fun a ha => W4.fr.at_ _ _ (SLs.dc a ha), fun a ha p hp => ⟨(SLs.cell a ha p hp).1, W4.fr.at_ _ _ (SLs.cell a ha p hp).2⟩, SLs.nk, SLs.inj, SLs.all, SLs.len⟩
      refine lc2_pre SL4 ha' hn hTnd ltT rfl rfl rfl cT4 fun μ5 f5 c5 => ?_
      have rsn : μ4.length ∉ (o :: rb :: rm :: rp :: ds) := fun h => by have := W4.b.lt _ h; omega
      refine h5.ap (W4.b.fr f5) W4.ok hn W4.pd (pre_nodup hTnd) (fun s hs => (pre_mem.mp hs).1) rsn c5 fun S5 ds5 μ6 Z5 B5 f6 d6 => ?_
      have W5 : WI n L R A o rb rm rp ds μ1 μ5 S1 := ⟨W4.b.fr f5, W4.ok, W4.pd, W4.resp, W4.acc, W4.fr.trans f5, W4.lo⟩
      have W6 := sd_step W5 Z5 B5 f6 d6 (preT a)
      have hdrop : (List.range L).drop a = a :: (List.range L).drop (a + 1) := by
        rw [List.drop_eq_getElem_cons (by simpa using ha'), List.getElem_range]
      rw [hdrop] at hop4
      subst hR
      refine ⟨_, _, _, ds5, S5, rfl, W6, hop4.letter wf hopT4 ltT (fun s hs => by rw [pre_mem]; simp [hs]) Z5, hopT4.rf ltT Z5.rf, f6.2 rt _ rt4 (f5.at_ _ _ cT4), ?_, by have := Z5.cnt; have := Z5.ok.few; omega⟩
      intro h
      simp only [List.mem_cons] at h rt4
      rcases h with h | h | h | h | h
      · exact rt4 (.inl h)
      · exact rt4 (.inr (.inl h))
      · exact rt4 (.inr (.inr (.inl h)))
      · exact rt4 (.inr (.inr (.inr (.inl h))))
      · rcases d6 _ h with h | h
        · exact rt4 (.inr (.inr (.inr (.inr h))))
        · have := get_lt cT4; have := f5.le; omega
    · rintro s' μ4 ⟨x6, x7, x8, ds, S1, rfl, W4, hop4, hopT4, cT4, rt4, m4⟩
      rw [List.length_map, List.length_range, List.drop_eq_nil_of_le (by simp)] at hop4
      try walk_at "gos"
      refine ⟨_, _, _, _, ds, S1, rfl, W4, fun s t hs ht e a hne => ?_, by omega⟩
      rcases hop4 s t hs ht e a hne with h | ⟨h, _⟩
      · exact .inl h
      · simp at h
end Le
namespace Le
structure BlkS (g : List U → Mem → Res U) : Prop where
  ap : ∀ {L n : Nat} {R : List (List Int)} {A : List Bool} {r1 : Nat} {ua : U} {μ : Mem} {Q : U → Mem → Prop} {E : Str → Mem → Prop}, McU L n μ (.ref r1) ua R A → (∀ (us : List U) (i : Nat) (w : U), seqU μ (.ref r1) = some us → us[i]? = some w → ∃ r, w = U.ref r) → 0 < n → (∀ i : Nat, i < n → ∃ w, lng R A i w = true) →
    (∀ o rb rm rp ds S μ', Fr μ μ' → BkU o rb rm rp ds μ' S → S.ok n → (∀ s t : Nat, s < n → t < n → (S.β s = S.β t ↔ ∀ w, lng R A s w = lng R A t w)) → Q (.ref o) μ') → wpE (g [.int (L : Nat), .ref r1, ua] μ) Q E
theorem st0_hop {n L : Nat} {R : List (List Int)} {A : List Bool} (wf : Wf L R A) (hR : R.length = n) : Hop R (st0 n) [] [] := by
  have hβ : ∀ s, (st0 n).β s = 0 := fun s => by
    unfold St.β st0
    simp only
    rw [List.getD_eq_getElem?_getD, List.getElem?_replicate]
    split <;> rfl
  intro s t hs ht e a ne
  left
  unfold blI at ne
  rw [hβ, hβ] at ne
  by_cases c1 : stp R s a < 0
  · by_cases c2 : stp R t a < 0
    · rw [if_pos c1, if_pos c2] at ne; exact absurd rfl ne
    · exact .inr ⟨by omega, by rw [hβ]; simp [st0]⟩
  · exact .inl ⟨by omega, by rw [hβ]; simp [st0]⟩
theorem blocks_s {C : Calls} (h3 : InitS (C 3)) (h5 : SplitS (C 5)) (h6 : SrcS (C 6)) : BlkS (runDef 9 (b_blocks_of C)) := by
  constructor
  intro L n R A r1 ua μ Q E M hrefs hn0 lv q
  have hn5 := M.n5
  have hA : A.length = n := by rw [M.wf.ac, M.len]
  have hul : ∃ us, seqU μ (.ref r1) = some us ∧ us.length = n := by
    generalize Q = Q' at q
    clear q
    have := M.rows
    unfold RowsU at this
    obtain ⟨us, a, b, _⟩ := this
    exact ⟨us, a, by rw [b, M.len]⟩
  rw [bl_is]
  have fin := fun (d : Nat) (o rb rm rp : Nat) (ds : List Nat) (μ1 μ2 : Mem) (S : St) gf (D : Dn) x5 x6 x7 x8 W H SLs cdd q => bl_end (C := C) h5 (n := n) (L := L) (d := d) (R := R) (A := A) (o := o) (rb := rb) (rm := rm) (rp := rp) (ds := ds) (μ0 := μ) (μ1 := μ1) (μ := μ2) (S := S) (gf := gf) (u0 := .int (L : Nat)) (u1 := .ref r1) (u2 := ua) (D := D) (x5 := x5) (x6 := x6) (x7 := x7) (x8 := x8) M.wf M.len M.n5 M.l1 lv W H SLs cdd q
  generalize blTail C = T at fin ⊢
  obtain ⟨us, hu, hul⟩ := hul
  walk_at "gos"
  refine h6.ap M hrefs fun gf μ1 f1 cd SLs => ?_
  try walk_at "gos"
  rw [w_make]
  walk_at "gos"
  rw [w_lenS' (seq_fr hu f1), hul]
  try walk_at "gos"
  have co : (μ1 ++ [Cell.obj "Blocks" []])[μ1.length]? = some (.obj "Blocks" []) := get_snoc
  refine h3.ap hn5 co fun rb rm rp dd μ2 B2 f2 l1 l2 l3 l4 => ?_
  have fr2 : Fr μ1 μ2 := ⟨by have := f2.1; simp at this; omega, fun i c e => f2.2 i c (by have := get_lt e; simp; omega) (get_snoc_lt e)⟩
  try walk_at "gos"
  rw [w_meth]
  walk_at "gos"
  refine ⟨_, isO_is B2.ob, rfl, ?_⟩
  rw [w_lenS' (seq_fr hu (f1.trans fr2)), hul]
  try walk_at "gos"
  refine ⟨by simp [okR]; omega, ?_⟩
  rw [Int.toNat_natCast]
  simp at l1 l2 l3 l4
  have ok0 := st0_ok hn0
  have f12 := f1.trans fr2
  refine lc_fm (List.range n) (fun i => U.int ((i : Nat) : Int)) (fun i => A.getD i false) (fun i => U.int ((i : Nat) : Int)) (by simp; omega) (fun i acc => ?_) (fun i hi acc => ?_) ?_
  · rw [item_rng]
    by_cases h : i < n
    · rw [if_pos h, List.getElem?_map, List.getElem?_range h]; simp
    · rw [if_neg h, List.getElem?_eq_none (by simp; omega)]
  · have hi' := List.mem_range.mp hi
    refine ⟨_, rfl, ?_⟩
    walk_at "go"
    rw [w_ixS (seq_fr M.acc (f12.snoc)), Dg.atI_nat, List.getElem?_map, List.getElem?_eq_getElem (by omega)]
    refine ⟨_, rfl, _, tru_b, ?_⟩
    rw [List.getD_eq_getElem?_getD, List.getElem?_eq_getElem (by omega)]
    refine ⟨rfl, rfl, fun _ => ?_⟩
    walk_at "go"
  rw [← iN_map]
  try walk_at "gos"
  have own : ∀ x ∈ (μ1.length :: rb :: rm :: rp :: [dd]), μ1.length ≤ x := by
    intro x hx
    simp only [List.mem_cons, List.not_mem_nil, or_false] at hx
    rcases hx with h | h | h | h | h <;> omega
  have rsn : μ2.length ∉ (μ1.length :: rb :: rm :: rp :: [dd]) := fun h => by have := B2.lt _ h; omega
  generalize hX : (List.range n).filter (fun i => A.getD i false) = X
  have hXm : ∀ i, i ∈ X ↔ i < n ∧ A.getD i false = true := fun i => by rw [← hX, List.mem_filter, List.mem_range]
  have acc_ : ∀ i : Nat, end_ A i = A.getD i false := fun i => by unfold end_; rw [if_neg (by omega), Int.toNat_natCast]
  have B3 : BkU μ1.length rb rm rp [dd] (μ2 ++ [Cell.lst ((iN X).map U.int)]) (st0 n) := B2.fr Fr.refl.snoc
  have c3 : (μ2 ++ [Cell.lst ((iN X).map U.int)])[μ2.length]? = some (.lst ((iN X).map U.int)) := get_snoc
  have fr3 : Fr μ1 (μ2 ++ [Cell.lst ((iN X).map U.int)]) := fr2.snoc
  generalize μ2.length = rs at rsn c3
  generalize μ2 ++ [Cell.lst ((iN X).map U.int)] = μ3 at B3 c3 fr3
  refine h5.ap B3 ok0 hn5 (by simp [st0]) (by rw [← hX]; exact List.nodup_range.filter _) (fun s hs => ((hXm s).mp hs).1) rsn c3 fun S' ds' μ4 Z B4 f4 d4 => ?_
  have hβ : ∀ s, (st0 n).β s = 0 := fun s => by
    unfold St.β st0
    simp only
    rw [List.getD_eq_getElem?_getD, List.getElem?_replicate]
    split <;> rfl
  have W4 : WI n L R A μ1.length rb rm rp ds' μ1 μ4 S' := by
    refine ⟨B4, Z.ok, by have := Z.cnt; simp [st0] at this; omega, fun s t hs ht h => Z.only s t hs ht (by rw [hβ, hβ]) ?_, fun s t hs ht e => ?_, ⟨by have := fr3.le; have := f4.1; omega, fun i c e => f4.2 i c (fun h => by have := own i h; have := get_lt e; omega) (fr3.at_ i c e)⟩, fun x hx => ?_⟩
    · rw [hXm, hXm, ← acc_, ← acc_]
      have := h []
      rw [lng_nil, lng_nil] at this
      simp [hs, ht, this]
    · have := Z.sep s t hs ht e
      rw [hXm, hXm, ← acc_, ← acc_] at this
      simp only [hs, ht, true_and] at this
      cases h1 : end_ A s <;> cases h2 : end_ A t <;> simp_all
    · simp only [List.mem_cons] at hx
      rcases hx with h | h | h | h | h
      · omega
      · omega
      · omega
      · omega
      · rcases d4 x h with h | h
        · simp at h; omega
        · have := fr3.le; omega
  have hop4 : Hop R S' [] [] := by
    have h0 := st0_hop M.wf M.len
    have hRn := M.len
    subst hRn
    exact h0.rf M.wf Z.rf
  refine fin μ.length μ1.length rb rm rp ds' μ1 μ4 S' gf _ _ _ _ _ W4 hop4 SLs cd fun ds5 μ5 S5 W5 h => ?_
  exact q _ rb rm rp ds5 S5 μ5 (f1.trans W5.fr) W5.b W5.ok h
end Le
namespace Le
def mcU (L : Nat) (O : List (List Int)) (B : List Bool) : U := .tup [.int (L : Nat), .tup (O.map fun r => U.tup (r.map U.int)), .tup (B.map U.bl)]
structure LeastS (g : List U → Mem → Res U) : Prop where
  ap : ∀ {L n : Nat} {R : List (List Int)} {A : List Bool} {u ua : U} {μ : Mem} {Q : U → Mem → Prop} {E : Str → Mem → Prop}, McU L n μ u ua R A → (∀ O B μ', Fr μ μ' → Canon L (lng R A 0) O B → O.length ≤ n → Q (mcU L O B) μ') → wpE (g [.int (L : Nat), u, ua] μ) Q E
/-- the joined rows -/
def jr (S : St) (r : List Int) : List Int := r.map fun t => if t = -1 then -1 else ((S.β t.toNat : Nat) : Int)
/-- the least machine of blocks is the one -/
theorem least_canon {L n : Nat} {R : List (List Int)} {A : List Bool} {S : St} {ex : List Nat} {F : List Int} {ess : List (List Int)} (wf : Wf L R A) (hR : R.length = n) (hn0 : 0 < n) (lv : ∀ i : Nat, i < n → ∃ w, lng R A i w = true) (ok : S.ok n)
    (hβ : ∀ s t : Nat, s < n → t < n → (S.β s = S.β t ↔ ∀ w, lng R A s w = lng R A t w)) (hel : ex.length = S.ms.length) (hex : ∀ (b e : Nat), ex[b]? = some e → e < n ∧ S.β e = b)
    (hF : F = run [((S.β 0 : Nat) : Int)] ess) (hlen : ess.length = F.length) (hlt : ∀ j, j < ess.length → j < (run [((S.β 0 : Nat) : Int)] (ess.take j)).length)
    (hes : ∀ (j : Nat) (s : Int), F[j]? = some s → ess[j]? = some ((ex.map fun e => jr S (R.getD e [])).getD s.toNat [])) (hin : ∀ s ∈ F, 0 ≤ s ∧ s < S.ms.length) (nd : F.Nodup) :
    Canon L (lng R A 0) (ess.map (mapd F)) (F.map fun b => end_ A (ex.getD b.toNat 0 : Nat)) := by
  have exg : ∀ b ∈ F, ex[b.toNat]? = some (ex.getD b.toNat 0) := fun b hb => by
    have := hin b hb
    rw [List.getD_eq_getElem?_getD, List.getElem?_eq_getElem (by omega)]; rfl
  have exin : ∀ b ∈ F, ex.getD b.toNat 0 < n ∧ ((S.β (ex.getD b.toNat 0) : Nat) : Int) = b := fun b hb => by
    obtain ⟨h1, h2⟩ := hex _ _ (exg b hb)
    have := hin b hb
    exact ⟨h1, by omega⟩
  have esr : ∀ (j : Nat) (b : Int), F[j]? = some b → ess[j]? = some (jr S (R.getD (ex.getD b.toNat 0) [])) := by
    intro j b h
    have hb := List.mem_of_getElem? h
    rw [hes j b h, List.getD_eq_getElem?_getD (l := ex.map _), List.getElem?_map, exg b hb]
    rfl
  have hhd : ∃ g, F = ((S.β 0 : Nat) : Int) :: g := by
    obtain ⟨g, hg⟩ := run_ext ess [((S.β 0 : Nat) : Int)]
    exact ⟨g, by rw [hF, hg]; rfl⟩
  have key : ∀ (es : List (List Int)) (f0 : List Int) (x : Int), x ≠ -1 → (∃ r ∈ es, x ∈ r) → x ∈ run f0 es := by
    intro es
    induction es with
    | nil => rintro f0 x _ ⟨r, h, _⟩; simp at h
    | cons e es ih =>
      rintro f0 x hx ⟨r, hr, hxr⟩
      show x ∈ run (addR f0 e) es
      rcases List.mem_cons.mp hr with rfl | hr
      · obtain ⟨g, hg⟩ := run_ext es (addR f0 r)
        rw [hg]
        exact List.mem_append_left _ ((addR_mem r).mpr (.inr ⟨hxr, hx⟩))
      · exact ih _ x hx ⟨r, hr, hxr⟩
  have rpg : ∀ (i s : Nat), (F.map fun b => ex.getD b.toNat 0)[i]? = some s → ∃ b, F[i]? = some b ∧ b ∈ F ∧ s = ex.getD b.toNat 0 := by
    intro i s h
    rw [List.getElem?_map] at h
    cases e : F[i]? with
    | none => rw [e] at h; cases h
    | some b => rw [e] at h; cases h; exact ⟨b, rfl, List.mem_of_getElem? e, rfl⟩
  refine canon_of (M := R) (B := A) (rp := F.map fun b => ex.getD b.toNat 0) wf (by simp [hlen]) (by simp [hlen]) (fun h => ?_) (fun s h w => ?_) (fun i s h => ?_) (fun i s h => ?_) (fun r hr => ?_) (fun i s r h hr a e ha => ?_) (fun i j s t h1 h2 h => ?_) fun _ => ?_
  · obtain ⟨g, hg⟩ := hhd
    have := congrArg List.length h
    rw [List.length_map, hlen, hg] at this
    simp at this
  · obtain ⟨b, hb, hbF, rfl⟩ := rpg 0 s h
    obtain ⟨g, hg⟩ := hhd
    rw [hg] at hb
    simp at hb
    obtain ⟨e1, e2⟩ := exin b hbF
    have := (hβ (ex.getD b.toNat 0) 0 e1 hn0).mp (by omega) w
    rw [this]
    rfl
  · obtain ⟨b, _, hbF, rfl⟩ := rpg i s h
    exact lv _ (exin b hbF).1
  · obtain ⟨b, hb, hbF, rfl⟩ := rpg i s h
    unfold end_
    rw [if_neg (by omega), Int.toNat_natCast, List.getD_eq_getElem?_getD, List.getElem?_map, hb]
    rfl
  · obtain ⟨es, he, rfl⟩ := List.mem_map.mp hr
    obtain ⟨j, hj⟩ := List.getElem?_of_mem he
    have hjl := (List.getElem?_eq_some_iff.mp hj).1
    have hFj : F[j]? = some F[j] := List.getElem?_eq_getElem (by omega)
    have := esr j _ hFj
    rw [hj] at this
    cases this
    have hb := exin F[j] (List.getElem_mem (by omega))
    unfold mapd jr
    rw [List.length_map, List.length_map]
    rw [List.getD_eq_getElem?_getD (l := R), List.getElem?_eq_getElem (by omega)]
    exact (wf.row _ (List.getElem_mem _)).1
  · obtain ⟨b, hb, hbF, rfl⟩ := rpg i s h
    have he := esr i b hb
    rw [List.getElem?_map, he] at hr
    cases hr
    have hbx := exin b hbF
    have hstp : stp R (ex.getD b.toNat 0 : Nat) a = (R.getD (ex.getD b.toNat 0) []).getD a (-1) := by rw [stp_get (by omega), Int.toNat_natCast]
    unfold mapd jr at ha
    rw [List.map_map, List.getElem?_map] at ha
    cases et : (R.getD (ex.getD b.toNat 0) [])[a]? with
    | none => rw [et] at ha; cases ha
    | some t =>
      rw [et] at ha
      have hst2 : stp R (ex.getD b.toNat 0 : Nat) a = t := by rw [hstp, List.getD_eq_getElem?_getD, et]; rfl
      have hb2 := wf.stp_in (s := ((ex.getD b.toNat 0 : Nat) : Int)) (a := a)
      rw [hst2] at hb2 ⊢
      simp only [Option.map_some, Function.comp, Option.some.injEq] at ha
      by_cases ht : t = -1
      · subst ht
        rw [if_pos (by simp)] at ha
        exact .inl ⟨ha.symm, fun w => lng_neg (by decide) w⟩
      · rw [if_neg ht, if_neg (by omega)] at ha
        refine .inr ?_
        have hmem : ((S.β t.toNat : Nat) : Int) ∈ F := by
          rw [hF]
          refine key ess _ _ (by omega) ⟨_, List.mem_of_getElem? he, ?_⟩
          unfold jr
          exact List.mem_map.mpr ⟨t, List.mem_of_getElem? et, by rw [if_neg ht]⟩
        have hix := List.idxOf_lt_length_of_mem hmem
        refine ⟨F.idxOf ((S.β t.toNat : Nat) : Int), ex.getD (S.β t.toNat) 0, ha.symm, ?_, fun w => ?_⟩
        · rw [List.getElem?_map, List.getElem?_eq_getElem hix, List.getElem_idxOf hix]
          simp
        · have h3 := exin _ hmem
          rw [Int.toNat_natCast] at h3
          have := (hβ (ex.getD (S.β t.toNat) 0) t.toNat h3.1 (by omega)).mp (by omega) w
          rw [this, Int.toNat_of_nonneg (by omega)]
  · obtain ⟨b, hb, hbF, rfl⟩ := rpg i s h1
    obtain ⟨c, hc, hcF, rfl⟩ := rpg j t h2
    have hb2 := exin b hbF
    have hc2 := exin c hcF
    have := (hβ _ _ hb2.1 hc2.1).mpr h
    have ebc : b = c := by omega
    subst ebc
    obtain ⟨l1, e1⟩ := List.getElem?_eq_some_iff.mp hb
    obtain ⟨l2, e2⟩ := List.getElem?_eq_some_iff.mp hc
    exact Dg.nodup_inj nd l1 l2 (e1.trans e2.symm)
  · have := num_run ess (f := [((S.β 0 : Nat) : Int)]) (F := F) (i := 0) hF nd (fun j hj => by rw [Nat.zero_add]; exact hlt j hj) (by omega)
    rw [List.length_map, hlen]
    exact this
end Le
namespace Le
theorem run_in {start : Int} {ess : List (List Int)} {F : List Int} (hF : F = run [start] ess) : ∀ r ∈ ess, ∀ x ∈ r, x ≠ -1 → x ∈ F := by
  have key : ∀ (es : List (List Int)) (f0 : List Int) (x : Int), x ≠ -1 → (∃ r ∈ es, x ∈ r) → x ∈ run f0 es := by
    intro es
    induction es with
    | nil => rintro f0 x _ ⟨r, h, _⟩; simp at h
    | cons e es ih =>
      rintro f0 x hx ⟨r, hr, hxr⟩
      show x ∈ run (addR f0 e) es
      rcases List.mem_cons.mp hr with rfl | hr
      · obtain ⟨g, hg⟩ := run_ext es (addR f0 r)
        rw [hg]
        exact List.mem_append_left _ ((addR_mem r).mpr (.inr ⟨hxr, hx⟩))
      · exact ih _ x hx ⟨r, hr, hxr⟩
  intro r hr x hx h
  rw [hF]
  exact key ess _ x h ⟨r, hr, hx⟩
def ls6 (C : Calls) : FS :=
    (sSeq (sAsg (.one 7) (fDcK (iEnumU (fVar 6)) [11, 12] (.tup [11, 12]) tAll (fVar 12) (fVar 11)))
    (sSeq (sStore (fVar 7) (fNeg (fC (.int 1))) (fNeg (fC (.int 1))))
    (sRet (fTup (aCons (fVar 0) (aCons (fCall bTuple (aCons (fLc (iSeq (fVar 6)) [12] (.one 12) tAll (fCall bTuple (aCons (fLc (iSeq (fOp ixU (fVar 5) (fVar 12))) [10] (.one 10) tAll (fOp ixU (fVar 7) (fVar 10))) aNil))) aNil)) (aCons (fCall bTuple (aCons (fLc (iSeq (fVar 6)) [12] (.one 12) tAll (fOp ixU (fVar 2) (fOp ixU (fVar 4) (fVar 12)))) aNil)) aNil)))))))
/-- the end: what is returned -/
theorem least_end {C : Calls} {L n m : Nat} {A : List Bool} {ex : List Nat} {F : List Int} {ess J : List (List Int)} {r2 rj re rf : Nat} {μ : Mem} {D : Dn} {x1 x3 x7 x8 x9 x10 x11 x12 : Option U} (hA : A.length = n) (hn : n ≤ 5000) (hm : m ≤ 5000) (hL : L ≤ 1000) (acc_ : seqU μ (.ref r2) = some (A.map U.bl)) (rowsJ : RowsU μ (.ref rj) J) (hJ : J.length = m) (hJr : ∀ r ∈ J, r.length ≤ 1000)
    (cex : μ[re]? = some (.lst ((iN ex).map U.int))) (hel : ex.length = m) (hex : ∀ e ∈ ex, e < n) (cf : μ[rf]? = some (.lst (F.map U.int))) (hin : ∀ s ∈ F, 0 ≤ s ∧ s < m) (nd : F.Nodup) (hcl : ∀ s ∈ F, ∀ t ∈ J.getD s.toNat [], t ≠ -1 → t ∈ F)
    (q : ∀ μ', Fr μ μ' → D.rt (mcU L (F.map fun s => mapd F (J.getD s.toNat [])) (F.map fun b => end_ A (ex.getD b.toNat 0 : Nat))) μ') :
    Dg.wpS (ls6 C [some (.int (L : Nat)), x1, some (.ref r2), x3, some (.ref re), some (.ref rj), some (.ref rf), x7, x8, x9, x10, x11, x12] μ) D := by
  have few := few_in nd hin
  unfold ls6
  walk_at "gos"
  rw [w_dcK, w_enum]
  walk_at "gos"
  refine ⟨_, listAt_L cf, ?_⟩
  refine dk_fm F (fun i s => U.tup [.int (i : Nat), .int s]) (fun s => s) (fun i s => .int (i : Nat)) (by omega) (by simpa using nd) (fun i acc => by rw [item_enum (get_snoc_lt cf), List.getElem?_mapIdx, List.getElem?_map]; cases F[i]? <;> rfl) (fun i hi acc => ?_) ?_
  · refine ⟨[some (.int (L : Nat)), x1, some (.ref r2), x3, some (.ref re), some (.ref rj), some (.ref rf), x7, x8, x9, x10, some (.int (i : Nat)), some (.int F[i])], rfl, ?_⟩
    walk_at "gos"
  rw [show (F.mapIdx fun i x => ((Sum.inl x : Key), U.int ((i : Nat) : Int))) = kvK F from rfl]
  have c7 : (μ ++ [Cell.dct (kvK F)])[μ.length]? = some (.dct (kvK F)) := get_snoc
  try walk_at "gos"
  refine ⟨_, stU_DI c7 (by unfold kvK; rw [List.length_mapIdx]; simp only [lim]; omega), ?_⟩
  have c8 := get_set (c := .dct (putU (kvK F) (.inl (-1)) (.int (-1)))) c7
  have f8 : Fr μ ((μ ++ [Cell.dct (kvK F)]).set μ.length (.dct (putU (kvK F) (.inl (-1)) (.int (-1))))) := Fr.refl.snoc.put (Nat.le_refl _)
  generalize (μ ++ [Cell.dct (kvK F)]).set μ.length (.dct (putU (kvK F) (.inl (-1)) (.int (-1)))) = μ1 at c8 f8 ⊢
  generalize hr7 : μ.length = r7 at c8 ⊢
  have c6 := f8.at_ _ _ cf
  have look : ∀ t : Int, t = -1 ∨ t ∈ F → valU (putU (kvK F) (.inl (-1)) (.int (-1))) (.inl t) = some (.int (if t = -1 then -1 else (F.idxOf t : Nat))) := by
    intro t ht
    rw [val_put]
    by_cases h : t = -1
    · subst h; simp
    · rw [if_neg (fun e => h (Sum.inl.inj e).symm), val_kvK nd, if_pos (ht.resolve_left h), if_neg h]
  try walk_at "gos"
  refine w_iseqS ?_
  try walk_at "gos"
  refine ⟨_, seq_Ls c6, fun j hj => ?_⟩
  refine lc_val F U.int (fun s => U.tup ((mapd F (J.getD s.toNat [])).map U.int)) (by omega) (fun μ' f i => hj μ' (seq_Ls (f.at_ _ _ c6)) i) (fun s hs μ2 f2 => ?_) fun μ2 f2 c2 => ?_
  · refine ⟨_, rfl, ?_⟩
    walk_at "gos"
    have b := hin s hs
    refine w_iseqS ?_
    walk_at "gos"
    refine rd_row0 rowsJ (f8.trans f2) b.1 (by omega) fun w hw => ?_
    refine ⟨_, seq_fr hw (f8.trans f2), fun j6 hj6 => ?_⟩
    have hrow := hJr _ (getD_in (R := J) b.1 (by omega))
    have hclr := hcl s hs
    generalize J.getD s.toNat [] = row at hw hrow hclr hj6
    refine lc_fm row U.int (fun _ => true) (fun t => .int (if t = -1 then -1 else (F.idxOf t : Nat))) (by omega) (fun k acc => hj6 _ (seq_fr hw ((f8.trans f2).snoc)) k) (fun x hx acc => ?_) ?_
    · refine ⟨_, rfl, ?_⟩
      walk_at "gos"
      intro _
      rw [w_ixD (get_snoc_lt (f2.at_ _ _ c8))]
      exact ⟨_, look x (by by_cases h : x = -1; exact .inl h; exact .inr (hclr x hx h)), rfl, rfl⟩
    · rw [w_tupleL get_snoc, List.filter_eq_self.mpr (fun _ _ => rfl)]
      refine ⟨?_, Fr.refl.snoc⟩
      unfold mapd
      rw [List.map_map]
      rfl
  · rw [w_tupleL c2]
    try walk_at "gos"
    refine w_iseqS ?_
    try walk_at "gos"
    refine ⟨_, seq_Ls (f2.at_ _ _ c6), fun j7 hj7 => ?_⟩
    refine lc_fm F U.int (fun _ => true) (fun b => .bl (end_ A (ex.getD b.toNat 0 : Nat))) (by omega) (fun k acc => hj7 _ (seq_Ls (get_snoc_lt (f2.at_ _ _ c6))) k) (fun x hx acc => ?_) ?_
    · refine ⟨_, rfl, ?_⟩
      walk_at "gos"
      intro _
      have b := hin x hx
      have f3 : Fr μ (μ2 ++ [Cell.lst acc]) := (f8.trans f2).snoc
      obtain ⟨i, rfl⟩ := Int.eq_ofNat_of_zero_le b.1
      have hi : i < ex.length := by omega
      rw [w_ixL (f3.at_ _ _ cex), Dg.atI_nat, iN_map, List.getElem?_map, List.getElem?_eq_getElem hi]
      refine ⟨_, rfl, ?_⟩
      have he := hex _ (List.getElem_mem hi)
      rw [w_ixS (seq_fr acc_ f3), Dg.atI_nat, List.getElem?_map, List.getElem?_eq_getElem (by omega : ex[i] < A.length)]
      refine ⟨_, rfl, ?_, rfl⟩
      rw [Int.toNat_natCast, List.getD_eq_getElem?_getD (l := ex), List.getElem?_eq_getElem hi]
      unfold end_
      rw [Option.getD_some, if_neg (by omega), Int.toNat_natCast, List.getD_eq_getElem?_getD, List.getElem?_eq_getElem (by omega : ex[i] < A.length)]
      rfl
    · rw [List.filter_eq_self.mpr (fun _ _ => rfl)]
      try walk_at "gos"
      rw [w_tupleL get_snoc]
      try walk_at "gos"
      have := q _ ((f8.trans f2).snoc (c := Cell.lst (F.map fun b => U.bl (end_ A (ex.getD b.toNat 0 : Nat)))))
      unfold mcU at this
      rw [List.map_map, List.map_map] at this
      exact this
end Le
namespace Le
def ls3 (C : Calls) : FS :=
    (sSeq (sAsg (.one 4) (fLc (iSeq (fFld "Blocks" "members" (fVar 3))) [8] (.one 8) tAll (fCall bMinK (aCons (fVar 8) aNil))))
    (sSeq (sAsg (.one 5) (fLc (iSeq (fVar 4)) [9] (.one 9) tAll (fLc (iSeq (fOp ixU (fVar 1) (fVar 9))) [10] (.one 10) tAll (fIf (tstB (fOp uEq (fVar 10) (fNeg (fC (.int 1))))) (fNeg (fC (.int 1))) (fOp ixU (fFld "Blocks" "block_of" (fVar 3)) (fVar 10))))))
    (sSeq (sAsg (.one 6) (fDef 2 (C 0) (aCons (fVar 5) (aCons (fOp ixU (fFld "Blocks" "block_of" (fVar 3)) (fC (.int 0))) aNil))))
    (ls6 C))))
theorem lst_is3 (C : Calls) : b_least C = (sSeq (sAsg (.tup [1, 2]) (fDef 2 (C 2) (aCons (fVar 1) (aCons (fVar 2) aNil))))
    (sSeq (sIf (tNt (tst (fVar 1))) (sRet (fTup (aCons (fVar 0) (aCons (fTup aNil) (aCons (fTup aNil) aNil))))) sNext)
    (sSeq (sAsg (.one 3) (fDef 3 (C 7) (aCons (fVar 0) (aCons (fVar 1) (aCons (fVar 2) aNil)))))
    (ls3 C)))) := rfl
theorem min_mem {m : Int} {is : List Int} : minI m is ∈ m :: is := by
  obtain ⟨h1, _, _⟩ := minI_ok is m
  rcases h1 with h1 | h1
  · rw [h1]; simp
  · exact List.mem_cons_of_mem _ h1
theorem least_mid {C : Calls} (h0 : MetS (C 0)) {L n : Nat} {R : List (List Int)} {A : List Bool} {r1 r2 o rb rm rp : Nat} {ds : List Nat} {S : St} {μ : Mem} {D : Dn} {x4 x5 x6 x7 x8 x9 x10 x11 x12 : Option U} (M : McU L n μ (.ref r1) (.ref r2) R A) (hn0 : 0 < n) (lv : ∀ i : Nat, i < n → ∃ w, lng R A i w = true)
    (B : BkU o rb rm rp ds μ S) (ok : S.ok n) (hβ : ∀ s t : Nat, s < n → t < n → (S.β s = S.β t ↔ ∀ w, lng R A s w = lng R A t w)) (q : ∀ O B μ', Fr μ μ' → Canon L (lng R A 0) O B → O.length ≤ n → D.rt (mcU L O B) μ') :
    Dg.wpS (ls3 C [some (.int (L : Nat)), some (.ref r1), some (.ref r2), some (.ref o), x4, x5, x6, x7, x8, x9, x10, x11, x12] μ) D := by
  have hn5 := M.n5
  have hL := M.l1
  have few := ok.few
  have hRl := M.len
  have m0 : 0 < S.ms.length := by have := ok.lt 0 hn0; omega
  unfold ls3
  have fin := fun (J ess : List (List Int)) (m : Nat) (ex : List Nat) (F : List Int) (re rj rf : Nat) (μ1 : Mem) (D : Dn) x7 x8 x9 x10 x11 x12 hA hm acc_ rowsJ hJ hJr cex hel hex cf hin nd hcl q => least_end (C := C) (L := L) (n := n) (m := m) (A := A) (ex := ex) (F := F) (ess := ess) (J := J) (r2 := r2) (rj := rj) (re := re) (rf := rf) (μ := μ1) (D := D) (x1 := some (.ref r1)) (x3 := some (.ref o)) (x7 := x7) (x8 := x8) (x9 := x9) (x10 := x10) (x11 := x11) (x12 := x12) hA M.n5 hm M.l1 acc_ rowsJ hJ hJr cex hel hex cf hin nd hcl q
  generalize ls6 C = T at fin ⊢
  walk_at "gos"
  refine w_iseqS ?_
  refine q_me rfl B.ob ?_
  refine ⟨_, seq_Ls B.cm, fun j hj => ?_⟩
  -- the least states of the blocks
  have hmin : ∀ b : Nat, ∃ e : Nat, b < S.ms.length → (e < n ∧ S.β e = b) ∧ ∃ d m is, ds[b]? = some d ∧ μ[d]? = some (.dct (kN (m :: is))) ∧ minI m is = (e : Nat) := by
    intro b
    by_cases hb : b < S.ms.length
    · have hl := List.getElem?_eq_getElem hb
      have hbd : b < ds.length := by rw [B.dl]; exact hb
      have cd := B.cd b _ _ hl (List.getElem?_eq_getElem hbd)
      have hne := ok.ne _ (List.getElem_mem hb)
      have hmem := ok.mem b _ hl
      generalize S.ms[b] = l at cd hne hmem
      cases l with
      | nil => exact absurd rfl hne
      | cons k r =>
        have hmm := min_mem (m := (k : Int)) (is := iN r)
        obtain ⟨e, he, ee⟩ := List.mem_map.mp (show minI (k : Int) (iN r) ∈ (k :: r).map (fun k => ((k : Nat) : Int)) from hmm)
        exact ⟨e, fun _ => ⟨(hmem e).mp he, ds[b], k, iN r, List.getElem?_eq_getElem hbd, cd, ee.symm⟩⟩
    · exact ⟨0, fun h => absurd h hb⟩
  obtain ⟨ef, hef⟩ := Classical.axiomOfChoice hmin
  have hexl : ((List.range S.ms.length).map ef).length = S.ms.length := by simp
  have exat : ∀ (b e : Nat), ((List.range S.ms.length).map ef)[b]? = some e → b < S.ms.length ∧ e = ef b := by
    intro b e h
    have hb := (List.getElem?_eq_some_iff.mp h).1
    rw [hexl] at hb
    rw [List.getElem?_map, List.getElem?_range hb] at h
    cases h
    exact ⟨hb, rfl⟩
  have hds : ds.map U.ref = (List.range S.ms.length).map fun b => U.ref (ds.getD b 0) := by
    refine List.ext_getElem? fun i => ?_
    rw [List.getElem?_map, List.getElem?_map]
    by_cases hi : i < ds.length
    · rw [List.getElem?_eq_getElem hi, List.getElem?_range (by rw [← B.dl]; exact hi)]
      simp [List.getD_eq_getElem?_getD, List.getElem?_eq_getElem hi]
    · rw [List.getElem?_eq_none (by omega), List.getElem?_eq_none (by simp; rw [← B.dl]; omega)]
      rfl
  rw [hds] at hj
  have hcm := B.cm
  rw [hds] at hcm
  refine lc_fm (List.range S.ms.length) (fun b => U.ref (ds.getD b 0)) (fun _ => true) (fun b => .int ((ef b : Nat) : Int)) (by simp; omega) (fun i acc => hj _ (seq_Ls (get_snoc_lt hcm)) i) (fun b hb acc => ?_) ?_
  · have hb' := List.mem_range.mp hb
    obtain ⟨⟨h1, h2⟩, d, m, is, h3, h4, h5⟩ := hef b hb'
    refine ⟨_, rfl, ?_⟩
    walk_at "gos"
    intro _
    rw [show ds.getD b 0 = d by rw [List.getD_eq_getElem?_getD, h3]; rfl, w_minK (get_snoc_lt h4), h5]
    exact ⟨rfl, rfl⟩
  rw [List.filter_eq_self.mpr (fun _ _ => rfl)]
  generalize hEX : (List.range S.ms.length).map ef = ex at hexl exat
  rw [show (List.range S.ms.length).map (fun b => U.int ((ef b : Nat) : Int)) = (iN ex).map U.int by rw [← hEX, iN_map, List.map_map]; rfl]
  have hex : ∀ (b e : Nat), ex[b]? = some e → e < n ∧ S.β e = b := fun b e h => by
    obtain ⟨h1, rfl⟩ := exat b e h
    exact (hef b h1).1
  have exlt : ∀ e ∈ ex, e < n := fun e he => by
    obtain ⟨b, hb⟩ := List.getElem?_of_mem he
    exact (hex b e hb).1
  have ce : (μ ++ [Cell.lst ((iN ex).map U.int)])[μ.length]? = some (.lst ((iN ex).map U.int)) := get_snoc
  have f1 : Fr μ (μ ++ [Cell.lst ((iN ex).map U.int)]) := Fr.refl.snoc
  generalize μ ++ [Cell.lst ((iN ex).map U.int)] = μ1 at ce f1
  generalize μ.length = re at ce
  try walk_at "gos"
  refine w_iseqS ?_
  try walk_at "gos"
  refine ⟨_, seq_Ls ce, fun j2 hj2 => ?_⟩
  have B1 := B.fr f1
  refine lc_new ((iN ex).map U.int) (fun i => .lst ((jr S (R.getD (ex.getD i 0) [])).map U.int)) (by rw [List.length_map, iN_len]; omega) (fun μ' f i => hj2 μ' (seq_Ls (f.at_ _ _ ce)) i) (fun i hi μ2 f2 => ?_) fun μ2 f2 l2 cd2 cz2 => ?_
  · have hi' : i < ex.length := by simpa [iN_len] using hi
    have ei : ((iN ex).map U.int)[i] = .int ((ex[i] : Nat) : Int) := by simp [iN]
    rw [ei]
    have hen := exlt _ (List.getElem_mem hi')
    rw [show ex.getD i 0 = ex[i] by rw [List.getD_eq_getElem?_getD, List.getElem?_eq_getElem hi']; rfl]
    generalize ex[i] = e at hen
    refine ⟨_, rfl, ?_⟩
    walk_at "gos"
    refine w_iseqS ?_
    walk_at "gos"
    refine rd_row0 M.rows (f1.trans f2) (by omega) (by omega) fun w hw => ?_
    refine ⟨_, seq_fr hw (f1.trans f2), fun j6 hj6 => ?_⟩
    rw [Int.toNat_natCast] at hw hj6
    have hrow : R.getD e [] ∈ R := by
      have := getD_in (R := R) (i := (e : Int)) (by omega) (by omega)
      rwa [Int.toNat_natCast] at this
    obtain ⟨hrl, hrt⟩ := M.wf.row _ hrow
    generalize R.getD e [] = row at hw hj6 hrl hrt
    refine lc_fm row U.int (fun _ => true) (fun t => .int (if t = -1 then -1 else ((S.β t.toNat : Nat) : Int))) (by omega) (fun k acc => hj6 _ (seq_fr hw ((f1.trans f2).snoc)) k) (fun x hx acc => ?_) ?_
    · have ht := hrt x hx
      refine ⟨_, rfl, ?_⟩
      walk_at "gos"
      intro _
      by_cases h : x = -1
      · subst h
        walk_at "go"
      · simp (config := {decide := true}) only [h, w_run, w_geXI, w_geXP, w_lz, w_op, w_isi, Dg.wipeU, w_powI, w_intB, w_sl, w_oNone, w_oSome, w_slT, w_slF, w_ixF, w_lenF, w_abs, w_max2, w_min2, w_fdivI, w_neg, w_andE, w_orE, w_notE, w_chain, w_c, w_var, w_call, w_def, w_anil, w_acons, w_tup, w_lst, w_int, w_intB, w_lenT, w_addI, w_subI, w_modI, w_mulI, w_ltI, w_leI, w_gtI, w_geI, w_eq, w_ne, w_ixT, w_if, w_nt, w_an, w_or, w_all, w_tstB, w_tst, w_app, w_lc, w_for, w_iseqT, w_rg1, w_rev1, w_d0, Dg.eq_str, Dg.eq_int, s_seq, s_next, s_brk, s_cnt, s_expr, s_ret, s_retN, s_if, w_getE, w_items, w_keys, w_fmt, w_js0, w_js, s_asg1, s_store, s_tryAs, s_try, w_isX, s_raise, List.map_cons, List.map_nil, List.cons_append, List.nil_append, List.length_cons, List.length_nil, List.replicate_succ, List.replicate_zero, Nat.add_sub_cancel, Nat.sub_self, Nat.sub_zero, Nat.reduceAdd, Nat.reduceSub, Nat.zero_add, List.set_cons_succ, List.set_cons_zero, List.getElem?_cons_zero, List.getElem?_cons_succ, Option.some.injEq, exists_eq_left', exists_eq_left, exists_eq_right', U.bl.injEq, U.int.injEq, U.ref.injEq, U.str.injEq, atI_0, atI_1, atI_2, atI_3, atI_4, atI_5, if_true, if_false, true_and, and_true, decide_true, decide_false, Bool.not_true, Bool.not_false, reduceCtorEq, ite_true, ite_false, decide_eq_true_eq, Bool.true_eq_false, Bool.false_eq_true]
        refine q_bo rfl (get_snoc_lt (f2.at_ _ _ B1.ob)) ?_
        obtain ⟨t, rfl⟩ := Int.eq_ofNat_of_zero_le (a := x) (by omega)
        rw [w_ixL (get_snoc_lt (f2.at_ _ _ B1.cb)), Dg.atI_nat, iN_map, List.getElem?_map]
        have htn : t < S.bo.length := by rw [ok.bl]; omega
        rw [List.getElem?_eq_getElem htn]
        refine ⟨_, rfl, ?_, rfl⟩
        unfold St.β
        rw [Int.toNat_natCast, List.getD_eq_getElem?_getD, List.getElem?_eq_getElem htn]
        rfl
    · rw [List.filter_eq_self.mpr (fun _ _ => rfl)]
      refine ⟨rfl, ?_⟩
      unfold jr
      rw [List.map_map]
      rfl
  rw [List.length_map, iN_len] at cd2 cz2
  have f12 := f1.trans f2
  have B2 := B1.fr f2
  generalize hJJ : ex.map (fun e => jr S (R.getD e [])) = J
  have hJl : J.length = S.ms.length := by rw [← hJJ, List.length_map, hexl]
  have hJat : ∀ (i : Nat) (r : List Int), J[i]? = some r → r = jr S (R.getD (ex.getD i 0) []) ∧ i < ex.length := by
    intro i r h
    rw [← hJJ, List.getElem?_map] at h
    cases e : ex[i]? with
    | none => rw [e] at h; cases h
    | some x =>
      rw [e] at h; cases h
      exact ⟨by rw [List.getD_eq_getElem?_getD (l := ex), e]; rfl, (List.getElem?_eq_some_iff.mp e).1⟩
  have rowsJ : RowsU μ2 (.ref μ1.length) J := by
    refine ⟨_, seq_Ls cd2, by simp [hJl, hexl], fun i w r hw hr => ?_⟩
    obtain ⟨rfl, hi⟩ := hJat i r hr
    rw [List.getElem?_map, List.getElem?_range hi] at hw
    cases hw
    exact seq_Ls (cz2 i hi)
  have hJr : ∀ r ∈ J, r.length ≤ 1000 ∧ ∀ t ∈ r, -1 ≤ t ∧ t < S.ms.length := by
    intro r hr
    obtain ⟨i, hi⟩ := List.getElem?_of_mem hr
    obtain ⟨rfl, hi'⟩ := hJat i r hi
    have hen := exlt (ex.getD i 0) (by rw [List.getD_eq_getElem?_getD, List.getElem?_eq_getElem hi']; exact List.getElem_mem hi')
    have hrow : R.getD (ex.getD i 0) [] ∈ R := by
      have := getD_in (R := R) (i := ((ex.getD i 0 : Nat) : Int)) (by omega) (by omega)
      rwa [Int.toNat_natCast] at this
    obtain ⟨hrl, hrt⟩ := M.wf.row _ hrow
    refine ⟨by unfold jr; rw [List.length_map, hrl]; exact hL, fun t ht => ?_⟩
    unfold jr at ht
    obtain ⟨x, hx, rfl⟩ := List.mem_map.mp ht
    have := hrt x hx
    split
    · omega
    · have := ok.lt x.toNat (by omega); omega
  try walk_at "gos"
  refine q_bo rfl B2.ob ?_
  have g0 : S.bo[0]? = some (S.β 0) := by
    unfold St.β
    rw [List.getD_eq_getElem?_getD, List.getElem?_eq_getElem (by rw [ok.bl]; exact hn0)]; rfl
  rw [w_ixL B2.cb, show (0 : Int) = ((0 : Nat) : Int) from rfl, Dg.atI_nat, iN_map, List.getElem?_map, g0]
  refine ⟨_, rfl, ?_⟩
  have hb0 := ok.lt 0 hn0
  try walk_at "gos"
  refine h0.ap (n := S.ms.length) rowsJ hJl (by omega) hJr (by omega) (by omega) fun F ess rf μ3 f3 lr3 c3 hF hlen hlt hes hin hnd => ?_
  have f13 := f12.trans f3
  have hA : A.length = n := by rw [M.wf.ac, M.len]
  have hcl : ∀ s ∈ F, ∀ t ∈ J.getD s.toNat [], t ≠ -1 → t ∈ F := by
    intro s hs t ht h1
    obtain ⟨j3, hj3⟩ := List.getElem?_of_mem hs
    exact run_in hF _ (List.mem_of_getElem? (hes j3 s hj3)) t ht h1
  have hO : F.map (fun s => mapd F (J.getD s.toNat [])) = ess.map (mapd F) := by
    refine List.ext_getElem? fun i => ?_
    rw [List.getElem?_map, List.getElem?_map]
    by_cases hi : i < F.length
    · rw [List.getElem?_eq_getElem hi, hes i _ (List.getElem?_eq_getElem hi)]
      rfl
    · rw [List.getElem?_eq_none (by omega), List.getElem?_eq_none (by omega)]
      rfl
  have can := least_canon (ex := ex) (F := F) (ess := ess) M.wf M.len hn0 lv ok hβ hexl hex hF hlen hlt (by rw [hJJ]; exact hes) hin hnd
  refine fin J ess S.ms.length ex F re μ1.length rf μ3 _ _ _ _ _ _ _ hA (by omega) (seq_fr M.acc f13) (rowsJ.fr f3) hJl (fun r hr => (hJr r hr).1) ((f2.trans f3).at_ _ _ ce) hexl exlt c3 hin hnd hcl fun μ4 f4 => ?_
  rw [hO]
  exact q _ _ μ4 (f13.trans f4) can (by have := few_in hnd hin; rw [List.length_map, hlen]; omega)
theorem least_s {C : Calls} (h0 : MetS (C 0)) (h2 : TrimS (C 2)) (h7 : BlkS (C 7)) : LeastS (runDef 13 (b_least C)) := by
  constructor
  intro L n R A u ua μ Q E M q
  rw [lst_is3]
  have mid := fun (n : Nat) R A (r1 r2 o rb rm rp : Nat) (ds : List Nat) (S : St) (μ1 : Mem) (D : Dn) x4 x5 x6 x7 x8 x9 x10 x11 x12 M hn0 lv B ok hβ q => least_mid (C := C) h0 (L := L) (n := n) (R := R) (A := A) (r1 := r1) (r2 := r2) (o := o) (rb := rb) (rm := rm) (rp := rp) (ds := ds) (S := S) (μ := μ1) (D := D) (x4 := x4) (x5 := x5) (x6 := x6) (x7 := x7) (x8 := x8) (x9 := x9) (x10 := x10) (x11 := x11) (x12 := x12) M hn0 lv B ok hβ q
  generalize ls3 C = T at mid ⊢
  walk_at "gos"
  rw [s_asg]
  walk_at "gos"
  refine h2.ap M fun R' A' r1 r2 μ1 f1 M1 hle lv hlang hrefs => ?_
  refine ⟨[some (.int (L : Nat)), some (.ref r1), some (.ref r2), none, none, none, none, none, none, none, none, none, none], rfl, ?_⟩
  walk_at "gos"
  obtain ⟨us, hu, hul, _⟩ := id M1.rows
  have cu : μ1[r1]? = some (.lst us) := by
    unfold seqU at hu
    simp only at hu
    cases e : μ1[r1]? with
    | none => rw [e] at hu; cases hu
    | some c =>
      rw [e] at hu
      cases c with
      | lst us' => cases hu; rfl
      | _ => cases hu
  refine ⟨_, truL cu, ?_⟩
  have hfun : lng R' A' 0 = lng R A 0 := funext hlang
  by_cases hz : R' = []
  · subst hz
    have : us = [] := List.length_eq_zero_iff.mp (by simpa using hul)
    subst this
    have hA' : A' = [] := List.length_eq_zero_iff.mp (by have := M1.wf.ac; simpa using this)
    subst hA'
    walk_at "gos"
    have can : Canon L (lng R A 0) [] [] := by
      rw [← hfun]
      exact ⟨M1.wf, fun w => rfl, fun i h => by simp at h, fun i j h => by simp at h, fun h => absurd rfl h⟩
    exact q [] [] μ1 f1 can (by simp)
  · have hp : 0 < R'.length := List.length_pos_iff.mpr hz
    rw [show (!us.isEmpty) = true by cases us with | nil => simp at hul; omega | cons _ _ => rfl]
    walk_at "gos"
    refine h7.ap M1 hrefs hp lv fun o rb rm rp ds S μ2 f2 B ok hβ => ?_
    try walk_at "gos"
    refine mid R'.length R' A' r1 r2 o rb rm rp ds S μ2 _ _ _ _ _ _ _ _ _ _ (M1.fr f2) hp lv B ok hβ fun O B' μ3 f3 can hol => ?_
    rw [hfun] at can
    exact q O B' μ3 ((f1.trans f2).trans f3) can (by omega)
structure LeastMS (g : List U → Mem → Res U) : Prop where
  ap : ∀ {L n : Nat} {R : List (List Int)} {A : List Bool} {u ua : U} {μ : Mem} {Q : U → Mem → Prop} {E : Str → Mem → Prop}, McU L n μ u ua R A → (∀ O B μ', Fr μ μ' → Canon L (lng R A 0) O B → O.length ≤ n → Q (mcU L O B) μ') → wpE (g [.tup [.int (L : Nat), u, ua]] μ) Q E
theorem least_m {C : Calls} (h8 : LeastS (C 8)) : LeastMS (runDef 4 (b_least_machine C)) := by
  constructor
  intro L n R A u ua μ Q E M q
  unfold b_least_machine
  walk_at "gos"
  rw [s_asg]
  walk_at "gos"
  refine ⟨[some (.tup [.int (L : Nat), u, ua]), some (.int (L : Nat)), some u, some ua], rfl, ?_⟩
  walk_at "gos"
  exact h8.ap M q
theorem leastm_c (k : Nat) : LeastMS (call (k + 8) 11) := by
  have m0 : ∀ k, MetS (call (k + 1) 0) := fun k => met_s
  have l1 : ∀ k, LiveS (call (k + 1) 1) := fun k => live_s
  have t2 : ∀ k, TrimS (call (k + 2) 2) := fun k => trim_s (m0 k) (l1 k)
  have i3 : ∀ k, InitS (call (k + 1) 3) := fun k => init_s
  have mo4 : ∀ k, MoveS (call (k + 1) 4) := fun k => move_s
  have s5 : ∀ k, SplitS (call (k + 2) 5) := fun k => split_s (mo4 k)
  have s6 : ∀ k, SrcS (call (k + 1) 6) := fun k => src_s
  have b7 : ∀ k, BlkS (call (k + 3) 7) := fun k => blocks_s (i3 (k + 1)) (s5 k) (s6 (k + 1))
  have l8 : ∀ k, LeastS (call (k + 4) 8) := fun k => least_s (m0 (k + 2)) (t2 (k + 1)) (b7 k)
  exact least_m (l8 (k + 3))
end Le
/-! the numbers of a script -/
structure NumsS (g : List U → Mem → Res U) : Prop where
  ap : ∀ {ns : List Int} {many : Int} {μ : Mem} {Q : U → Mem → Prop} {E : Str → Mem → Prop}, ns.length ≤ 63 → 0 < many → many ≤ 1000 →
  (∀ (nums : List Int) μ' r, (nums.length : Int) = many → (∀ x ∈ nums, 0 ≤ x ∧ x < 2147483648) → Fr μ μ' → μ.length ≤ r → μ'[r]? = some (.lst (nums.map U.int)) → Q (.ref r) μ') → wpE (g [.frl (ns.map U.int), .int many] μ) Q E
theorem big48271 : big64 48271 = true := by decide
theorem big69621 : big64 69621 = true := by decide
theorem big16807 : big64 16807 = true := by decide
theorem big7 : big64 7 = true := by decide
def NumsI (μ : Mem) (m : Nat) (μ' : Mem) : Prop := ∃ nums : List Int, nums.length ≤ m ∧ (∀ x ∈ nums, 0 ≤ x ∧ x < 2147483648) ∧ μ'[μ.length]? = some (.lst (nums.map U.int)) ∧ Fr μ μ'
theorem nums_push {μ μ' : Mem} {nums : List Int} {x : Int} (h : ∀ x ∈ nums, 0 ≤ x ∧ x < 2147483648) (hx : 0 ≤ x ∧ x < 2147483648) (c : μ'[μ.length]? = some (.lst (nums.map U.int))) (f : Fr μ μ') {m : Nat} (hm : nums.length + 1 ≤ m) :
    NumsI μ m (μ'.set μ.length (.lst (nums.map U.int ++ [.int x]))) := by
  refine ⟨nums ++ [x], by simpa using hm, fun y hy => ?_, ?_, f.put (Nat.le_refl _)⟩
  · rcases List.mem_append.mp hy with q | q
    · exact h y q
    · simp at q; subst q; exact hx
  · rw [get_set c]; simp
theorem fmod_in' (x : Int) : 0 ≤ x.fmod 2147483647 ∧ x.fmod 2147483647 < 2147483647 := Dg.fmod_in (by decide)
theorem fdiv_in {y : Int} (h : 0 ≤ y ∧ y < 2147483647) {d : Int} (hd : 0 < d := by decide) : 0 ≤ y.fdiv d ∧ y.fdiv d < 2147483648 := by
  rw [Int.fdiv_eq_ediv_of_nonneg _ (by omega)]
  refine ⟨Int.ediv_nonneg h.1 (by omega), ?_⟩
  have := Int.ediv_le_self d h.1
  omega
theorem nums_s {C : Calls} : NumsS (runDef 9 (b__law_numbers C)) := by
  constructor
  intro ns many μ Q E hl h0 h1 q
  unfold b__law_numbers
  walk_at "go"
  refine ⟨by simp [okR]; omega, ?_⟩
  refine for_go (fun i s' μ' => i ≤ ns.length ∧ (∃ x3 x4 x5 x6 x7 x8, s' = [some (.frl (ns.map U.int)), some (.int many), some (.ref μ.length), x3, x4, x5, x6, x7, x8]) ∧ NumsI μ many.toNat μ') ns.length (by omega) ⟨by omega, ⟨_, _, _, _, _, _, rfl⟩, [], by simp, by simp, by simp, Fr.refl.snoc⟩ (fun i s' μ' h => h.1) ?_
  rintro i s' μ' ⟨hi, ⟨x3, x4, x5, x6, x7, x8, rfl⟩, nums, n1, n2, c, f⟩
  rw [item_rng]
  have hlm : ((List.map U.int ns).length : Int).toNat = ns.length := by simp
  by_cases e : i < ns.length
  · right
    refine ⟨_, _, by rw [if_pos (by rw [hlm]; exact e)], rfl, ?_⟩
    walk_at "go"
    refine ⟨.int ns[i], by rw [show (0 : Int) + (i : Int) * 1 = (i : Nat) by omega, Dg.atI_nat]; simp [e], ?_⟩
    walk_at "go"
    split
    · refine for_go (fun j s' μ' => j ≤ 60 ∧ (∃ cell x3 x5 x6 x7 x8, s' = [some (.frl (ns.map U.int)), some (.int many), some (.ref μ.length), x3, some (.int cell), x5, x6, x7, x8]) ∧ NumsI μ many.toNat μ') 60 (by omega) ⟨by omega, ⟨_, _, _, _, _, _, rfl⟩, nums, n1, n2, c, f⟩ (fun i s' μ' h => h.1) ?_
      rintro j s'' μ'' ⟨hj, ⟨cell, y3, y5, y6, y7, y8, rfl⟩, nums', n1', n2', c', f'⟩
      rw [item_rng]
      by_cases ej : j < 60
      · right
        refine ⟨_, _, by rw [if_pos (by simpa using ej)], rfl, ?_⟩
        walk_at "go"
        split
        · rw [w_lenL c']
          walk_at "go"
          split
          · rename_i hlt
            refine ⟨_, lstU_L c', ?_⟩
            try simp only [List.length_map] at hlt
            rw [w_append c' (by simp [lim]; omega)]
            refine ⟨by omega, ⟨_, _, _, _, _, _, rfl⟩, ?_⟩
            obtain ⟨b1, b2⟩ := Dg.fmod_in (x := cell) (m := 10007) (by decide)
            exact nums_push n2' ⟨b1, by omega⟩ c' f' (by omega)
          · exact ⟨by omega, ⟨_, _, _, _, _, _, rfl⟩, nums', n1', n2', c', f'⟩
        · exact ⟨by omega, ⟨_, _, _, _, _, _, rfl⟩, nums', n1', n2', c', f'⟩
      · left
        refine ⟨by rw [if_neg (by simpa using ej)], ?_⟩
        exact ⟨by omega, ⟨_, _, _, _, _, _, rfl⟩, nums', n1', n2', c', f'⟩
    · rw [w_lenL c]
      walk_at "go"
      split
      · rename_i hlt
        try simp only [List.length_map] at hlt
        try simp (config := {decide := true}) only [big48271, big69621, big16807, big7, Bool.or_true, Bool.true_or, w_run, w_geXI, w_geXP, w_lz, w_op, w_isi, Dg.wipeU, w_powI, w_intB, w_sl, w_oNone, w_oSome, w_slT, w_slF, w_ixF, w_lenF, w_abs, w_max2, w_min2, w_fdivI, w_neg, w_andE, w_orE, w_notE, w_chain, w_c, w_var, w_call, w_def, w_anil, w_acons, w_tup, w_lst, w_int, w_intB, w_lenT, w_addI, w_subI, w_modI, w_mulI, w_ltI, w_leI, w_gtI, w_geI, w_eq, w_ne, w_ixT, w_if, w_nt, w_an, w_or, w_all, w_tstB, w_tst, w_app, w_lc, w_for, w_iseqT, w_rg1, w_rev1, w_d0, Dg.eq_str, Dg.eq_int, s_seq, s_next, s_brk, s_cnt, s_expr, s_ret, s_retN, s_if, w_getE, w_items, w_keys, w_fmt, w_js0, w_js, s_asg1, s_store, s_tryAs, s_try, w_isX, s_raise, List.map_cons, List.map_nil, List.cons_append, List.nil_append, List.length_cons, List.length_nil, List.replicate_succ, List.replicate_zero, Nat.add_sub_cancel, Nat.sub_self, Nat.sub_zero, Nat.reduceAdd, Nat.reduceSub, Nat.zero_add, List.set_cons_succ, List.set_cons_zero, List.getElem?_cons_zero, List.getElem?_cons_succ, Option.some.injEq, exists_eq_left', exists_eq_left, exists_eq_right', U.bl.injEq, U.int.injEq, U.ref.injEq, U.str.injEq, atI_0, atI_1, atI_2, atI_3, atI_4, atI_5, if_true, if_false, true_and, and_true, decide_true, decide_false, Bool.not_true, Bool.not_false, reduceCtorEq, ite_true, ite_false, decide_eq_true_eq, Bool.true_eq_false, Bool.false_eq_true]
        refine ⟨_, lstU_L c, ?_⟩
        try simp (config := {decide := true}) only [big48271, big69621, big16807, big7, Bool.or_true, Bool.true_or, w_run, w_geXI, w_geXP, w_lz, w_op, w_isi, Dg.wipeU, w_powI, w_intB, w_sl, w_oNone, w_oSome, w_slT, w_slF, w_ixF, w_lenF, w_abs, w_max2, w_min2, w_fdivI, w_neg, w_andE, w_orE, w_notE, w_chain, w_c, w_var, w_call, w_def, w_anil, w_acons, w_tup, w_lst, w_int, w_intB, w_lenT, w_addI, w_subI, w_modI, w_mulI, w_ltI, w_leI, w_gtI, w_geI, w_eq, w_ne, w_ixT, w_if, w_nt, w_an, w_or, w_all, w_tstB, w_tst, w_app, w_lc, w_for, w_iseqT, w_rg1, w_rev1, w_d0, Dg.eq_str, Dg.eq_int, s_seq, s_next, s_brk, s_cnt, s_expr, s_ret, s_retN, s_if, w_getE, w_items, w_keys, w_fmt, w_js0, w_js, s_asg1, s_store, s_tryAs, s_try, w_isX, s_raise, List.map_cons, List.map_nil, List.cons_append, List.nil_append, List.length_cons, List.length_nil, List.replicate_succ, List.replicate_zero, Nat.add_sub_cancel, Nat.sub_self, Nat.sub_zero, Nat.reduceAdd, Nat.reduceSub, Nat.zero_add, List.set_cons_succ, List.set_cons_zero, List.getElem?_cons_zero, List.getElem?_cons_succ, Option.some.injEq, exists_eq_left', exists_eq_left, exists_eq_right', U.bl.injEq, U.int.injEq, U.ref.injEq, U.str.injEq, atI_0, atI_1, atI_2, atI_3, atI_4, atI_5, if_true, if_false, true_and, and_true, decide_true, decide_false, Bool.not_true, Bool.not_false, reduceCtorEq, ite_true, ite_false, decide_eq_true_eq, Bool.true_eq_false, Bool.false_eq_true]
        rw [w_append c (by simp [lim]; omega)]
        refine ⟨by omega, ⟨_, _, _, _, _, _, rfl⟩, ?_⟩
        refine nums_push n2 ?_ c f (by omega)
        exact fdiv_in (fmod_in' _)
      · exact ⟨by omega, ⟨_, _, _, _, _, _, rfl⟩, nums, n1, n2, c, f⟩
  · left
    refine ⟨by rw [if_neg (by rw [hlm]; exact e)], ?_⟩
    walk_at "go"
    rw [w_lenL c]
    walk_at "go"
    refine ⟨by simp [okR]; omega, ?_⟩
    have hb : nums.length ≤ many.toNat := n1
    refine for_go (fun i s' μ' => i ≤ (max 0 (many - ((nums.map U.int).length : Int))).toNat ∧ (∃ last x3 x4 x5 x6, s' = [some (.frl (ns.map U.int)), some (.int many), some (.ref μ.length), x3, x4, x5, x6, some (.int (nums.map U.int).length), some (.int last)]) ∧ ∃ nums' : List Int, nums'.length = nums.length + i ∧ (∀ x ∈ nums', 0 ≤ x ∧ x < 2147483648) ∧ μ'[μ.length]? = some (.lst (nums'.map U.int)) ∧ Fr μ μ') ((max 0 (many - ((nums.map U.int).length : Int))).toNat) (by omega) ⟨by omega, ⟨_, _, _, _, _, rfl⟩, nums, by omega, n2, c, f⟩ (fun i s' μ' h => h.1) ?_
    rintro i s'' μ'' ⟨hi', ⟨last, y3, y4, y5, y6, rfl⟩, nums', n1', n2', c', f'⟩
    rw [item_rng]
    by_cases ej : i < (max 0 (many - ((nums.map U.int).length : Int))).toNat
    · right
      simp only [List.length_map] at ej
      refine ⟨_, _, by rw [if_pos (by simpa using ej)], rfl, ?_⟩
      walk_at "go"
      have hlen : (nums.map U.int).length = nums.length := by simp
      have fin : ∀ last' : Int, i + 1 ≤ (max 0 (many - ((nums.map U.int).length : Int))).toNat ∧ (∃ last x3 x4 x5 x6, [some (.frl (ns.map U.int)), some (.int many), some (.ref μ.length), some (.int (0 + (i : Int) * 1)), y4, y5, y6, some (.int (nums.map U.int).length), some (.int ((last' * 48271 + (0 + (i : Int) * 1)).fmod 2147483647))] = [some (.frl (ns.map U.int)), some (.int many), some (.ref μ.length), x3, x4, x5, x6, some (.int (nums.map U.int).length), some (.int last)]) ∧ ∃ nums'' : List Int, nums''.length = nums.length + (i + 1) ∧ (∀ x ∈ nums'', 0 ≤ x ∧ x < 2147483648) ∧ (μ''.set μ.length (.lst (nums'.map U.int ++ [.int (((last' * 48271 + (0 + (i : Int) * 1)).fmod 2147483647).fdiv 7)])))[μ.length]? = some (.lst (nums''.map U.int)) ∧ Fr μ (μ''.set μ.length (.lst (nums'.map U.int ++ [.int (((last' * 48271 + (0 + (i : Int) * 1)).fmod 2147483647).fdiv 7)]))) := by
        intro last'
        refine ⟨by rw [hlen]; omega, ⟨_, _, _, _, _, rfl⟩, nums' ++ [((last' * 48271 + (0 + (i : Int) * 1)).fmod 2147483647).fdiv 7], by simp; omega, fun y hy => ?_, by rw [get_set c']; simp, f'.put (Nat.le_refl _)⟩
        rcases List.mem_append.mp hy with q | q
        · exact n2' y q
        · simp at q; subst q; exact fdiv_in (fmod_in' _)
      split
      · rename_i hp
        refine ⟨by omega, ?_⟩
        rw [w_ixL c']
        obtain ⟨b1, b2⟩ := Dg.fmod_in (x := 0 + (i : Int) * 1) hp
        obtain ⟨w, a1, a2⟩ := Dg.atI_in (xs := nums'.map U.int) b1 (by simp at b2 ⊢; omega)
        obtain ⟨z, _, rfl⟩ := List.mem_map.mp a2
        refine ⟨_, a1, ?_⟩
        simp (config := {decide := true}) only [big48271, Bool.or_true, w_run, w_geXI, w_geXP, w_lz, w_op, w_isi, Dg.wipeU, w_powI, w_intB, w_sl, w_oNone, w_oSome, w_slT, w_slF, w_ixF, w_lenF, w_abs, w_max2, w_min2, w_fdivI, w_neg, w_andE, w_orE, w_notE, w_chain, w_c, w_var, w_call, w_def, w_anil, w_acons, w_tup, w_lst, w_int, w_intB, w_lenT, w_addI, w_subI, w_modI, w_mulI, w_ltI, w_leI, w_gtI, w_geI, w_eq, w_ne, w_ixT, w_if, w_nt, w_an, w_or, w_all, w_tstB, w_tst, w_app, w_lc, w_for, w_iseqT, w_rg1, w_rev1, w_d0, Dg.eq_str, Dg.eq_int, s_seq, s_next, s_brk, s_cnt, s_expr, s_ret, s_retN, s_if, w_getE, w_items, w_keys, w_fmt, w_js0, w_js, s_asg1, s_store, s_tryAs, s_try, w_isX, s_raise, List.map_cons, List.map_nil, List.cons_append, List.nil_append, List.length_cons, List.length_nil, List.replicate_succ, List.replicate_zero, Nat.add_sub_cancel, Nat.sub_self, Nat.sub_zero, Nat.reduceAdd, Nat.reduceSub, Nat.zero_add, List.set_cons_succ, List.set_cons_zero, List.getElem?_cons_zero, List.getElem?_cons_succ, Option.some.injEq, exists_eq_left', exists_eq_left, exists_eq_right', U.bl.injEq, U.int.injEq, U.ref.injEq, U.str.injEq, atI_0, atI_1, atI_2, atI_3, atI_4, atI_5, if_true, if_false, true_and, and_true, decide_true, decide_false, Bool.not_true, Bool.not_false, reduceCtorEq, ite_true, ite_false, decide_eq_true_eq, Bool.true_eq_false, Bool.false_eq_true]
        refine ⟨_, lstU_L c', ?_⟩
        rw [w_append c' (by simp [lim]; omega)]
        exact fin _
      · simp (config := {decide := true}) only [big48271, Bool.or_true, w_run, w_geXI, w_geXP, w_lz, w_op, w_isi, Dg.wipeU, w_powI, w_intB, w_sl, w_oNone, w_oSome, w_slT, w_slF, w_ixF, w_lenF, w_abs, w_max2, w_min2, w_fdivI, w_neg, w_andE, w_orE, w_notE, w_chain, w_c, w_var, w_call, w_def, w_anil, w_acons, w_tup, w_lst, w_int, w_intB, w_lenT, w_addI, w_subI, w_modI, w_mulI, w_ltI, w_leI, w_gtI, w_geI, w_eq, w_ne, w_ixT, w_if, w_nt, w_an, w_or, w_all, w_tstB, w_tst, w_app, w_lc, w_for, w_iseqT, w_rg1, w_rev1, w_d0, Dg.eq_str, Dg.eq_int, s_seq, s_next, s_brk, s_cnt, s_expr, s_ret, s_retN, s_if, w_getE, w_items, w_keys, w_fmt, w_js0, w_js, s_asg1, s_store, s_tryAs, s_try, w_isX, s_raise, List.map_cons, List.map_nil, List.cons_append, List.nil_append, List.length_cons, List.length_nil, List.replicate_succ, List.replicate_zero, Nat.add_sub_cancel, Nat.sub_self, Nat.sub_zero, Nat.reduceAdd, Nat.reduceSub, Nat.zero_add, List.set_cons_succ, List.set_cons_zero, List.getElem?_cons_zero, List.getElem?_cons_succ, Option.some.injEq, exists_eq_left', exists_eq_left, exists_eq_right', U.bl.injEq, U.int.injEq, U.ref.injEq, U.str.injEq, atI_0, atI_1, atI_2, atI_3, atI_4, atI_5, if_true, if_false, true_and, and_true, decide_true, decide_false, Bool.not_true, Bool.not_false, reduceCtorEq, ite_true, ite_false, decide_eq_true_eq, Bool.true_eq_false, Bool.false_eq_true]
        refine ⟨_, lstU_L c', ?_⟩
        rw [w_append c' (by simp [lim]; omega)]
        exact fin _
    · left
      refine ⟨by rw [if_neg (by simpa using ej)], ?_⟩
      walk_at "go"
      rw [w_slL c']
      simp only [List.length_map] at ej hi'
      refine q (nums'.take many.toNat) _ _ (by simp; omega) (fun x hx => n2' x (List.mem_of_mem_take hx)) f'.snoc f'.le ?_
      rw [cutU_take (by omega)]
      simp
/-! machines -/
structure Mc where
  L : Nat
  mv : List (List Int)
  ac : List Bool
def rwU (r : List Int) : U := .tup (r.map U.int)
def mU (M : Mc) : U := .tup [.int M.L, .tup (M.mv.map rwU), .tup (M.ac.map U.bl)]
structure Mc.ok (M : Mc) : Prop where
  ac : M.ac.length = M.mv.length
  row : ∀ r ∈ M.mv, r.length = M.L ∧ ∀ t ∈ r, -1 ≤ t ∧ t < M.mv.length
structure LawMachineS (g : List U → Mem → Res U) : Prop where
  ap : ∀ {nums : List Int} {r : Nat} {μ : Mem} {at_ gaps : Int} {L S : Nat} {Q : U → Mem → Prop} {E : Str → Mem → Prop}, μ[r]? = some (.lst (nums.map U.int)) → nums ≠ [] → (∀ x ∈ nums, 0 ≤ x) → L ≤ 200 → S ≤ 400 →
    (∀ (M : Mc) μ', M.ok → M.L = L → M.mv.length = S → Fr μ μ' → Q (mU M) μ') → wpE (g [.ref r, .int at_, .int L, .int S, .int gaps] μ) Q E
theorem num_at {nums : List Int} {i : Int} (h : nums ≠ []) (h2 : ∀ x ∈ nums, 0 ≤ x) : ∃ x : Int, atI (nums.map U.int) (i.fmod (nums.length : Int)) = some (.int x) ∧ 0 ≤ x := by
  have hl : 0 < (nums.length : Int) := by
    have := List.length_pos_iff.mpr h
    omega
  obtain ⟨a1, a2⟩ := Dg.fmod_in (x := i) hl
  obtain ⟨w, b1, b2⟩ := Dg.atI_in (xs := nums.map U.int) a1 (by simpa using a2)
  obtain ⟨z, hz, rfl⟩ := List.mem_map.mp b2
  exact ⟨z, b1, h2 z hz⟩
theorem law_machine_s {C : Calls} : LawMachineS (runDef 12 (b__law_machine C)) := by
  constructor
  intro nums r μ at_ gaps L S Q E hr hne hpos hL hS q
  have hlen : 0 < nums.length := List.length_pos_iff.mpr hne
  unfold b__law_machine
  walk_at "go"
  refine ⟨by simp [okR]; omega, ?_⟩
  have e1 : (μ ++ [Cell.lst []]).length = μ.length + 1 := by simp
  rw [e1]
  refine for_rng S (fun i s' μ' => (∃ x7 x8 x9 x10 x11, s' = [some (.ref r), some (.int at_), some (.int L), some (.int S), some (.int gaps), some (.ref μ.length), some (.ref (μ.length + 1)), x7, x8, x9, x10, x11]) ∧
    ∃ (mv : List (List Int)) (ac : List Bool), mv.length = i ∧ ac.length = i ∧ (∀ w ∈ mv, w.length = L ∧ ∀ t ∈ w, -1 ≤ t ∧ t < S) ∧ μ'[μ.length]? = some (.lst (mv.map rwU)) ∧ μ'[μ.length + 1]? = some (.lst (ac.map U.bl)) ∧ Fr μ μ') (by simp) (by omega)
    ⟨⟨_, _, _, _, _, rfl⟩, [], [], rfl, rfl, by simp, by simp, by simp, (Fr.refl.snoc).snoc⟩ ?_ ?_
  · rintro i s' μ1 hi ⟨⟨x7, x8, x9, x10, x11, rfl⟩, mv, ac, m1, m2, m3, c1, c2, f1⟩
    refine ⟨_, rfl, ?_⟩
    walk_at "go"
    refine ⟨by simp [okR]; omega, ?_⟩
    have l2 := get_lt c2
    refine for_rng L (fun j s' μ' => (∃ x9 x10 x11, s' = [some (.ref r), some (.int at_), some (.int L), some (.int S), some (.int gaps), some (.ref μ.length), some (.ref (μ.length + 1)), some (.int i), some (.ref μ1.length), x9, x10, x11]) ∧
      ∃ w : List Int, w.length = j ∧ (∀ t ∈ w, -1 ≤ t ∧ t < S) ∧ μ'[μ1.length]? = some (.lst (w.map U.int)) ∧ Fr μ1 μ') (by simp) (by omega)
      ⟨⟨_, _, _, rfl⟩, [], rfl, by simp, by simp, Fr.refl.snoc⟩ ?_ ?_
    · rintro j s' μ2 hj ⟨⟨x9, x10, x11, rfl⟩, w, w1, w2, c3, f2⟩
      refine ⟨_, rfl, ?_⟩
      have cr := f2.at_ _ _ (f1.at_ _ _ hr)
      have hb : big64 (i : Int) = true := by simp [big64]; omega
      simp (config := {decide := true}) only [hb, Bool.true_or, w_run, w_geXI, w_geXP, w_lz, w_op, w_isi, Dg.wipeU, w_powI, w_intB, w_sl, w_oNone, w_oSome, w_slT, w_slF, w_ixF, w_lenF, w_abs, w_max2, w_min2, w_fdivI, w_neg, w_andE, w_orE, w_notE, w_chain, w_c, w_var, w_call, w_def, w_anil, w_acons, w_tup, w_lst, w_int, w_intB, w_lenT, w_addI, w_subI, w_modI, w_mulI, w_ltI, w_leI, w_gtI, w_geI, w_eq, w_ne, w_ixT, w_if, w_nt, w_an, w_or, w_all, w_tstB, w_tst, w_app, w_lc, w_for, w_iseqT, w_rg1, w_rev1, w_d0, Dg.eq_str, Dg.eq_int, s_seq, s_next, s_brk, s_cnt, s_expr, s_ret, s_retN, s_if, w_getE, w_items, w_keys, w_fmt, w_js0, w_js, s_asg1, s_store, s_tryAs, s_try, w_isX, s_raise, List.map_cons, List.map_nil, List.cons_append, List.nil_append, List.length_cons, List.length_nil, List.replicate_succ, List.replicate_zero, Nat.add_sub_cancel, Nat.sub_self, Nat.sub_zero, Nat.reduceAdd, Nat.reduceSub, Nat.zero_add, List.set_cons_succ, List.set_cons_zero, List.getElem?_cons_zero, List.getElem?_cons_succ, Option.some.injEq, exists_eq_left', exists_eq_left, exists_eq_right', U.bl.injEq, U.int.injEq, U.ref.injEq, U.str.injEq, atI_0, atI_1, atI_2, atI_3, atI_4, atI_5, if_true, if_false, true_and, and_true, decide_true, decide_false, Bool.not_true, Bool.not_false, reduceCtorEq, ite_true, ite_false, decide_eq_true_eq, Bool.true_eq_false, Bool.false_eq_true]
      rw [w_lenL cr]
      walk_at "go"
      refine ⟨by simp; omega, ?_⟩
      rw [w_ixL cr, List.length_map]
      obtain ⟨x, a1, a2⟩ := num_at (i := at_ + (i : Int) * (L : Int) + (j : Int)) hne hpos
      refine ⟨_, a1, ?_⟩
      walk_at "go"
      have hS0 : (S : Int) ≠ 0 := by omega
      refine ⟨hS0, ?_⟩
      obtain ⟨b1, b2⟩ := Dg.fmod_in (x := x.fdiv 7) (m := (S : Int)) (by omega)
      have fin : ∀ t : Int, -1 ≤ t → t < S → ∃ us, lstU μ2 (.ref μ1.length) = some us ∧ wpE (gAppend (.ref μ1.length) [.int t] μ2) (fun _ μ' => (∃ x9 x10 x11, [some (U.ref r), some (.int at_), some (.int L), some (.int S), some (.int gaps), some (.ref μ.length), some (.ref (μ.length + 1)), some (.int i), some (.ref μ1.length), some (.int j), some (.int x), some (.int t)] = [some (.ref r), some (.int at_), some (.int L), some (.int S), some (.int gaps), some (.ref μ.length), some (.ref (μ.length + 1)), some (.int i), some (.ref μ1.length), x9, x10, x11]) ∧
          ∃ w : List Int, w.length = j + 1 ∧ (∀ t ∈ w, -1 ≤ t ∧ t < S) ∧ μ'[μ1.length]? = some (.lst (w.map U.int)) ∧ Fr μ1 μ') (fun c μ => E c μ) := by
        intro t t1 t2
        refine ⟨_, lstU_L c3, ?_⟩
        rw [w_append c3 (by simp [lim]; omega)]
        refine ⟨⟨_, _, _, rfl⟩, w ++ [t], by simp; omega, fun y hy => ?_, by rw [get_set c3]; simp, f2.put (Nat.le_refl _)⟩
        rcases List.mem_append.mp hy with h | h
        · exact w2 y h
        · simp at h; subst h; exact ⟨t1, t2⟩
      split
      · exact fin (-1) (by omega) (by omega)
      · exact fin _ (by omega) b2
    · rintro s' μ2 ⟨⟨x9, x10, x11, rfl⟩, w, w1, w2, c3, f2⟩
      have cr := f2.at_ _ _ (f1.at_ _ _ hr)
      have ca := f2.at_ _ _ c1
      have cb := f2.at_ _ _ c2
      have l3 := get_lt c3
      walk_at "go"
      refine ⟨_, lstU_L ca, ?_⟩
      rw [w_tupleL c3, w_append ca (by simp [lim]; omega)]
      have cb' : (μ2.set μ.length (.lst (List.map rwU mv ++ [.tup (w.map U.int)])))[μ.length + 1]? = some (.lst (ac.map U.bl)) := get_set_ne cb (by omega)
      have lr := get_lt hr
      have cr' : (μ2.set μ.length (.lst (List.map rwU mv ++ [.tup (w.map U.int)])))[r]? = some (.lst (nums.map U.int)) := get_set_ne cr (by omega)
      refine ⟨_, lstU_L cb', ?_⟩
      rw [w_lenL cr']
      walk_at "go"
      refine ⟨by simp; omega, ?_⟩
      rw [w_ixL cr', List.length_map]
      obtain ⟨x, a1, a2⟩ := num_at (i := at_ + 131 + (i : Int)) hne hpos
      refine ⟨_, a1, ?_⟩
      walk_at "go"
      rw [w_append cb' (by simp [lim]; omega)]
      refine ⟨⟨_, _, _, _, _, rfl⟩, mv ++ [w], ac ++ [_], by simp; omega, by simp; omega, fun y hy => ?_, ?_, by rw [get_set cb']; simp; rfl, ((f1.trans f2).put (Nat.le_refl _)).put (by omega)⟩
      · rcases List.mem_append.mp hy with h | h
        · exact m3 y h
        · simp at h; subst h; exact ⟨w1, w2⟩
      · rw [get_set_ne (get_set ca) (by omega)]
        simp [rwU]
  · rintro s' μ1 ⟨⟨x7, x8, x9, x10, x11, rfl⟩, mv, ac, m1, m2, m3, c1, c2, f1⟩
    walk_at "go"
    rw [w_tupleL c1, w_tupleL c2]
    exact q ⟨L, mv, ac⟩ μ1 ⟨by simp; omega, fun w hw => by simp only; rw [m1]; exact m3 w hw⟩ rfl m1 f1
def gU (L : Int) (mv : List (List Int)) (ac : List Bool) : U := .tup [.int L, .tup (mv.map rwU), .tup (ac.map U.bl)]
def okRow (L : Int) (S : Nat) (r : List Int) : Bool := decide ((r.length : Int) = L) && r.all fun t => decide (-1 ≤ t) && decide (t < S)
structure AreS (g : List U → Mem → Res U) : Prop where
  ap : ∀ {r : List Int} {L : Int} {S : Nat} {μ : Mem} {Q : U → Mem → Prop} {E : Str → Mem → Prop}, r.length < 1000 → (∀ μ', Fr μ μ' → Q (.bl (okRow L S r)) μ') → wpE (g [rwU r, .int L, .int S] μ) Q E
theorem are_s {C : Calls} : AreS (runDef 4 (b_are_moves C)) := by
  constructor
  intro r L S μ Q E hl q
  unfold b_are_moves rwU
  walk_at "go"
  by_cases h : (r.length : Int) = L
  · simp (config := {decide := true}) only [List.length_map, h, w_run, w_geXI, w_geXP, w_lz, w_op, w_isi, Dg.wipeU, w_powI, w_intB, w_sl, w_oNone, w_oSome, w_slT, w_slF, w_ixF, w_lenF, w_abs, w_max2, w_min2, w_fdivI, w_neg, w_andE, w_orE, w_notE, w_chain, w_c, w_var, w_call, w_def, w_anil, w_acons, w_tup, w_lst, w_int, w_intB, w_lenT, w_addI, w_subI, w_modI, w_mulI, w_ltI, w_leI, w_gtI, w_geI, w_eq, w_ne, w_ixT, w_if, w_nt, w_an, w_or, w_all, w_tstB, w_tst, w_app, w_lc, w_for, w_iseqT, w_rg1, w_rev1, w_d0, Dg.eq_str, Dg.eq_int, s_seq, s_next, s_brk, s_cnt, s_expr, s_ret, s_retN, s_if, w_getE, w_items, w_keys, w_fmt, w_js0, w_js, s_asg1, s_store, s_tryAs, s_try, w_isX, s_raise, List.map_cons, List.map_nil, List.cons_append, List.nil_append, List.length_cons, List.length_nil, List.replicate_succ, List.replicate_zero, Nat.add_sub_cancel, Nat.sub_self, Nat.sub_zero, Nat.reduceAdd, Nat.reduceSub, Nat.zero_add, List.set_cons_succ, List.set_cons_zero, List.getElem?_cons_zero, List.getElem?_cons_succ, Option.some.injEq, exists_eq_left', exists_eq_left, exists_eq_right', U.bl.injEq, U.int.injEq, U.ref.injEq, U.str.injEq, atI_0, atI_1, atI_2, atI_3, atI_4, atI_5, if_true, if_false, true_and, and_true, decide_true, decide_false, Bool.not_true, Bool.not_false, reduceCtorEq, ite_true, ite_false, decide_eq_true_eq, Bool.true_eq_false, Bool.false_eq_true]
    refine lc_map (fun u => match u with | .int t => .bl (decide (-1 ≤ t) && decide (t < S)) | _ => .non) (by simpa using (by omega : r.length < 1000000)) ?_ ?_
    · intro i μ1 hi f1
      refine ⟨_, rfl, ?_⟩
      simp only [List.getElem_map]
      walk_at "go"
      by_cases h1 : -1 ≤ r[i]'(by simpa using hi)
      · simp [h1, Fr.refl]
      · simp [h1, Fr.refl]
    · intro μ1 f1 c1
      have e : blsU ((List.map U.int r).map (fun u => match u with | .int t => .bl (decide (-1 ≤ t) && decide (t < (S : Int))) | _ => .non)) = some (r.map fun t : Int => decide (-1 ≤ t) && decide (t < (S : Int))) := by
        rw [List.map_map]
        exact blsU_map (fun t : Int => decide (-1 ≤ t) && decide (t < (S : Int))) r
      rw [w_allL c1 e]
      have := q μ1 f1
      simpa [okRow, h] using this
  · simp (config := {decide := true}) only [List.length_map, h, w_run, w_geXI, w_geXP, w_lz, w_op, w_isi, Dg.wipeU, w_powI, w_intB, w_sl, w_oNone, w_oSome, w_slT, w_slF, w_ixF, w_lenF, w_abs, w_max2, w_min2, w_fdivI, w_neg, w_andE, w_orE, w_notE, w_chain, w_c, w_var, w_call, w_def, w_anil, w_acons, w_tup, w_lst, w_int, w_intB, w_lenT, w_addI, w_subI, w_modI, w_mulI, w_ltI, w_leI, w_gtI, w_geI, w_eq, w_ne, w_ixT, w_if, w_nt, w_an, w_or, w_all, w_tstB, w_tst, w_app, w_lc, w_for, w_iseqT, w_rg1, w_rev1, w_d0, Dg.eq_str, Dg.eq_int, s_seq, s_next, s_brk, s_cnt, s_expr, s_ret, s_retN, s_if, w_getE, w_items, w_keys, w_fmt, w_js0, w_js, s_asg1, s_store, s_tryAs, s_try, w_isX, s_raise, List.map_cons, List.map_nil, List.cons_append, List.nil_append, List.length_cons, List.length_nil, List.replicate_succ, List.replicate_zero, Nat.add_sub_cancel, Nat.sub_self, Nat.sub_zero, Nat.reduceAdd, Nat.reduceSub, Nat.zero_add, List.set_cons_succ, List.set_cons_zero, List.getElem?_cons_zero, List.getElem?_cons_succ, Option.some.injEq, exists_eq_left', exists_eq_left, exists_eq_right', U.bl.injEq, U.int.injEq, U.ref.injEq, U.str.injEq, atI_0, atI_1, atI_2, atI_3, atI_4, atI_5, if_true, if_false, true_and, and_true, decide_true, decide_false, Bool.not_true, Bool.not_false, reduceCtorEq, ite_true, ite_false, decide_eq_true_eq, Bool.true_eq_false, Bool.false_eq_true]
    have := q μ .refl
    simpa [okRow, h] using this
def okM (L : Int) (mv : List (List Int)) (ac : List Bool) : Prop := (0 ≤ L ∧ L ≤ 200) ∧ mv.length ≤ 400 ∧ ac.length = mv.length ∧ mv.all (okRow L mv.length) = true
structure CheckS (g : List U → Mem → Res U) : Prop where
  good : ∀ {L : Int} {mv : List (List Int)} {ac : List Bool} {μ : Mem} {Q : U → Mem → Prop} {E : Str → Mem → Prop}, mv.length < 1000 → (∀ r ∈ mv, r.length < 1000) → okM L mv ac → (∀ μ', Fr μ μ' → Q .non μ') → wpE (g [gU L mv ac] μ) Q E
  bad : ∀ {L : Int} {mv : List (List Int)} {ac : List Bool} {μ : Mem} {Q : U → Mem → Prop} {E : Str → Mem → Prop}, mv.length < 1000 → (∀ r ∈ mv, r.length < 1000) → ¬ okM L mv ac → (∀ μ', Fr μ μ' → E "NotAllowed" μ') → wpE (g [gU L mv ac] μ) Q E
theorem check_both {C : Calls} (h0 : AreS (C 9)) {L : Int} {mv : List (List Int)} {ac : List Bool} {μ : Mem} {Q : U → Mem → Prop} {E : Str → Mem → Prop} (hm : mv.length < 1000) (hr : ∀ r ∈ mv, r.length < 1000)
    (q1 : okM L mv ac → ∀ μ', Fr μ μ' → Q .non μ') (q2 : ¬ okM L mv ac → ∀ μ', Fr μ μ' → E "NotAllowed" μ') : wpE (runDef 5 (b_check_machine C) [gU L mv ac] μ) Q E := by
  have t200 : (toString (200 : Int) : Str).length = 3 := by decide +kernel
  have t400 : (toString (400 : Int) : Str).length = 3 := by decide +kernel
  have e0 : Str.empty.length = 0 := by decide +kernel
  unfold b_check_machine gU
  simp (config := {decide := true}) only [s_asg, setT, setAll, w_run, w_geXI, w_geXP, w_lz, w_op, w_isi, Dg.wipeU, w_powI, w_intB, w_sl, w_oNone, w_oSome, w_slT, w_slF, w_ixF, w_lenF, w_abs, w_max2, w_min2, w_fdivI, w_neg, w_andE, w_orE, w_notE, w_chain, w_c, w_var, w_call, w_def, w_anil, w_acons, w_tup, w_lst, w_int, w_intB, w_lenT, w_addI, w_subI, w_modI, w_mulI, w_ltI, w_leI, w_gtI, w_geI, w_eq, w_ne, w_ixT, w_if, w_nt, w_an, w_or, w_all, w_tstB, w_tst, w_app, w_lc, w_for, w_iseqT, w_rg1, w_rev1, w_d0, Dg.eq_str, Dg.eq_int, s_seq, s_next, s_brk, s_cnt, s_expr, s_ret, s_retN, s_if, w_getE, w_items, w_keys, w_fmt, w_js0, w_js, s_asg1, s_store, s_tryAs, s_try, w_isX, s_raise, List.map_cons, List.map_nil, List.cons_append, List.nil_append, List.length_cons, List.length_nil, List.replicate_succ, List.replicate_zero, Nat.add_sub_cancel, Nat.sub_self, Nat.sub_zero, Nat.reduceAdd, Nat.reduceSub, Nat.zero_add, List.set_cons_succ, List.set_cons_zero, List.getElem?_cons_zero, List.getElem?_cons_succ, Option.some.injEq, exists_eq_left', exists_eq_left, exists_eq_right', U.bl.injEq, U.int.injEq, U.ref.injEq, U.str.injEq, atI_0, atI_1, atI_2, atI_3, atI_4, atI_5, if_true, if_false, true_and, and_true, decide_true, decide_false, Bool.not_true, Bool.not_false, reduceCtorEq, ite_true, ite_false, decide_eq_true_eq, Bool.true_eq_false, Bool.false_eq_true]
  have fm : ∀ n : Int, n = 200 ∨ n = 400 → ∀ pre : Str, pre.length ≤ 100 → ∀ post : Str, post.length ≤ 100 → ∃ y, fmtOk (.int n) y ∧ (Str.empty ++ pre ++ y).length ≤ lim ∧ (Str.empty ++ pre ++ y ++ post).length ≤ lim := by
    rintro n (rfl | rfl) pre hp post hq
    · refine ⟨_, fmt_int (by decide), ?_, ?_⟩
      · rw [len_app, len_app, e0, t200]; simp only [lim]; omega
      · rw [len_app, len_app, len_app, e0, t200]; simp only [lim]; omega
    · refine ⟨_, fmt_int (by decide), ?_, ?_⟩
      · rw [len_app, len_app, e0, t400]; simp only [lim]; omega
      · rw [len_app, len_app, len_app, e0, t400]; simp only [lim]; omega
  have one : ¬ (0 ≤ L ∧ L ≤ 200) → ∃ y, fmtOk (U.int 200) y ∧ (Str.empty ++ Str.ofString "the number of letters is not from 0 to " ++ y).length ≤ lim ∧ E (Str.ofString "NotAllowed") μ := fun h => by
    obtain ⟨y, a, b, _⟩ := fm 200 (.inl rfl) (Str.ofString "the number of letters is not from 0 to ") (by decide +kernel) Str.empty (by decide +kernel)
    exact ⟨y, a, b, q2 (fun z => h z.1) μ .refl⟩
  split
  · rename_i h1
    split
    · rename_i h2
      exact one fun z => by simp at h2; omega
    · rename_i h2
      have h2' : L ≤ 200 := by simpa using h2
      split
      · rename_i h3
        obtain ⟨y, a, b, c⟩ := fm 400 (.inr rfl) (Str.ofString "there are more than ") (by decide +kernel) (Str.ofString " states") (by decide +kernel)
        refine ⟨y, a, b, c, q2 (fun z => ?_) μ .refl⟩
        have := z.2.1
        simp at h3
        omega
      · rename_i h3
        simp at h3
        split
        · rename_i h4
          refine q2 (fun z => ?_) μ .refl
          have := z.2.2.1
          simp at h4
          omega
        · rename_i h4
          simp at h4
          refine lc_map (fun u => match u with | .tup ts => .bl (match intsU ts with | some is => okRow L mv.length is | none => false) | _ => .non) (by simpa using (by omega : mv.length < 1000000)) ?_ ?_
          · intro i μ1 hi f1
            have hi' : i < mv.length := by simpa using hi
            refine ⟨_, rfl, ?_⟩
            simp only [List.getElem_map]
            simp (config := {decide := true}) only [List.length_map, w_run, w_geXI, w_geXP, w_lz, w_op, w_isi, Dg.wipeU, w_powI, w_intB, w_sl, w_oNone, w_oSome, w_slT, w_slF, w_ixF, w_lenF, w_abs, w_max2, w_min2, w_fdivI, w_neg, w_andE, w_orE, w_notE, w_chain, w_c, w_var, w_call, w_def, w_anil, w_acons, w_tup, w_lst, w_int, w_intB, w_lenT, w_addI, w_subI, w_modI, w_mulI, w_ltI, w_leI, w_gtI, w_geI, w_eq, w_ne, w_ixT, w_if, w_nt, w_an, w_or, w_all, w_tstB, w_tst, w_app, w_lc, w_for, w_iseqT, w_rg1, w_rev1, w_d0, Dg.eq_str, Dg.eq_int, s_seq, s_next, s_brk, s_cnt, s_expr, s_ret, s_retN, s_if, w_getE, w_items, w_keys, w_fmt, w_js0, w_js, s_asg1, s_store, s_tryAs, s_try, w_isX, s_raise, List.map_cons, List.map_nil, List.cons_append, List.nil_append, List.length_cons, List.length_nil, List.replicate_succ, List.replicate_zero, Nat.add_sub_cancel, Nat.sub_self, Nat.sub_zero, Nat.reduceAdd, Nat.reduceSub, Nat.zero_add, List.set_cons_succ, List.set_cons_zero, List.getElem?_cons_zero, List.getElem?_cons_succ, Option.some.injEq, exists_eq_left', exists_eq_left, exists_eq_right', U.bl.injEq, U.int.injEq, U.ref.injEq, U.str.injEq, atI_0, atI_1, atI_2, atI_3, atI_4, atI_5, if_true, if_false, true_and, and_true, decide_true, decide_false, Bool.not_true, Bool.not_false, reduceCtorEq, ite_true, ite_false, decide_eq_true_eq, Bool.true_eq_false, Bool.false_eq_true]
            refine h0.ap (hr _ (List.getElem_mem hi')) fun μ2 f2 => ⟨?_, f2⟩
            simp only [rwU]
            have := intsU_map (fun t : Int => t) mv[i]
            simp only [List.map_id'] at this
            rw [this]
          · intro μ1 f1 c1
            have e : blsU ((mv.map rwU).map (fun u => match u with | .tup ts => .bl (match intsU ts with | some is => okRow L mv.length is | none => false) | _ => .non)) = some (mv.map (okRow L mv.length)) := by
              rw [List.map_map]
              refine Eq.trans (congrArg blsU ?_) (blsU_map (okRow L mv.length) mv)
              refine List.map_congr_left fun r _ => ?_
              have := intsU_map (fun t : Int => t) r
              simp only [List.map_id'] at this
              simp only [Function.comp, rwU, this]
            rw [w_allL c1 e]
            refine ⟨_, tru_b, ?_⟩
            have e2 : (mv.map (okRow L mv.length)).all id = mv.all (okRow L mv.length) := by simp [List.all_map]
            rw [e2]
            split
            · rename_i h5
              refine q2 (fun z => ?_) μ1 f1
              rw [z.2.2.2] at h5
              cases h5
            · rename_i h5
              exact q1 ⟨⟨h1, h2'⟩, by omega, by omega, by simpa using h5⟩ μ1 f1
  · rename_i h1
    exact one fun z => h1 z.1
theorem check_s {C : Calls} (h0 : AreS (C 9)) : CheckS (runDef 5 (b_check_machine C)) where
  good := fun hm hr ok q => check_both h0 hm hr (fun _ => q) (fun h => absurd ok h)
  bad := fun hm hr ok q => check_both h0 hm hr (fun h => absurd h ok) (fun _ => q)
/-! states of machines -/
def fst (M : Mc) : Int := if M.mv.isEmpty = true then -1 else 0
def rowOf (M : Mc) (s : Int) : List Int := if s = -1 then List.replicate M.L (-1) else M.mv.getD s.toNat []
def ends (M : Mc) (s : Int) : Bool := if s = -1 then false else M.ac.getD s.toNat false
def plc (M : Mc) (s : Int) : Prop := -1 ≤ s ∧ s < M.mv.length
def stp (M : Mc) (s : Int) (l : Nat) : Int := (rowOf M s).getD l (-1)
theorem fst_plc (M : Mc) : plc M (fst M) := by
  unfold plc fst
  cases h : M.mv with
  | nil => simp
  | cons r rs => simp
theorem row_ok {M : Mc} (ok : M.ok) {s : Int} (h : plc M s) : (rowOf M s).length = M.L ∧ ∀ t ∈ rowOf M s, plc M t := by
  unfold rowOf
  split
  · exact ⟨by simp, fun t ht => by rw [(List.mem_replicate.mp ht).2]; exact ⟨by omega, by omega⟩⟩
  · rename_i hs
    obtain ⟨a, b⟩ := h
    have hl : s.toNat < M.mv.length := by omega
    rw [List.getD_eq_getElem?_getD, List.getElem?_eq_getElem hl]
    exact ok.row _ (List.getElem_mem hl)
theorem stp_plc {M : Mc} (ok : M.ok) {s : Int} (h : plc M s) {l : Nat} (hl : l < M.L) : plc M (stp M s l) := by
  obtain ⟨a, b⟩ := row_ok ok h
  unfold stp
  rw [List.getD_eq_getElem?_getD, List.getElem?_eq_getElem (by omega)]
  exact b _ (List.getElem_mem _)
theorem at_mv {M : Mc} {s : Int} (h : plc M s) (hs : s ≠ -1) : atI (M.mv.map rwU) s = some (.tup ((rowOf M s).map U.int)) := by
  obtain ⟨a, b⟩ := h
  rw [atI_toNat (by omega) (by simp; omega)]
  unfold rowOf
  rw [if_neg hs, List.getD_eq_getElem?_getD, List.getElem?_eq_getElem (by omega : s.toNat < M.mv.length)]
  simp [rwU]
theorem at_ac {M : Mc} (ok : M.ok) {s : Int} (h : plc M s) (hs : s ≠ -1) : atI (M.ac.map U.bl) s = some (.bl (ends M s)) := by
  obtain ⟨a, b⟩ := h
  have := ok.ac
  rw [atI_toNat (by omega) (by simp; omega)]
  unfold ends
  rw [if_neg hs, List.getD_eq_getElem?_getD, List.getElem?_eq_getElem (by omega : s.toNat < M.ac.length)]
  simp
theorem eq_int {i j : Int} {μ : Mem} : eqU (.int i) (.int j) μ = some (decide (i = j)) := by
  have := eq_pd (u := .int i) (w := .int j) (μ := μ) rfl rfl (by simp [dp])
  obtain ⟨b, h1, h2⟩ := this
  rw [h1]
  congr 1
  cases b with
  | true => simp at h2; simp [h2]
  | false => simp at h2; simp [h2]
theorem any_prs {p : Int × Int} {g : Nat → Option PyData} : ∀ ps : List (Int × Int), ∃ ds, toDs g (ps.map prU) = some ds ∧ (ds.any fun y => PyData.eqv y (.tuple [.int p.1, .int p.2])) = decide (p ∈ ps)
  | [] => ⟨[], rfl, rfl⟩
  | q :: ps => by
    obtain ⟨ds, h1, h2⟩ := any_prs (p := p) (g := g) ps
    refine ⟨.tuple [.int q.1, .int q.2] :: ds, by simp [prU, toDs, toD, h1], ?_⟩
    rw [List.any_cons, h2]
    have e : PyData.eqv (.tuple [.int q.1, .int q.2]) (.tuple [.int p.1, .int p.2]) = decide (p = q) := by
      have h := pd_eq (u := prU q) (w := prU p) (g := g) rfl rfl (d := .tuple [.int q.1, .int q.2]) (e := .tuple [.int p.1, .int p.2]) (by simp [prU, toD, toDs]) (by simp [prU, toD, toDs])
      have h2 : prU q = prU p ↔ p = q := by
        simp only [prU, U.tup.injEq, List.cons.injEq, U.int.injEq, and_true]
        exact ⟨fun h => Prod.ext h.1.symm h.2.symm, fun h => by rw [h]; exact ⟨rfl, rfl⟩⟩
      rw [Bool.eq_iff_iff, decide_eq_true_iff, h, h2]
    rw [e]
    simp [List.mem_cons]
theorem in_prs {p : Int × Int} {ps : List (Int × Int)} {r : Nat} {μ : Mem} (h : μ[r]? = some (.lst (ps.map prU))) : inU (prU p) (.ref r) μ = some (decide (p ∈ ps)) := by
  obtain ⟨ds, h1, h2⟩ := any_prs (p := p) (g := refD μ 6) ps
  have e1 : datU μ (prU p) = some (.tuple [.int p.1, .int p.2]) := by simp [datU, prU, toD, toDs]
  have e2 : dctU μ (.ref r) = none := by unfold dctU; simp only [h]
  have e3 : seqU μ (.ref r) = some (ps.map prU) := by unfold seqU; simp only [h]
  unfold inU
  simp only [e2, e3, e1, h1]
  rw [if_pos (by simp [PyData.depth, PyData.depthAll]), h2]
theorem w_ninP {p : Int × Int} {ps : List (Int × Int)} {r : Nat} {μ : Mem} {Q : U → Mem → Prop} {E : Str → Mem → Prop} (h : μ[r]? = some (.lst (ps.map prU))) : wpE (uNin (prU p) (.ref r) μ) Q E = Q (.bl (!decide (p ∈ ps))) μ := by
  unfold uNin; rw [in_prs h]; rfl
structure LawNextS (g : List U → Mem → Res U) : Prop where
  ap : ∀ {M : Mc} {s : Int} {l : Nat} {μ : Mem} {Q : U → Mem → Prop} {E : Str → Mem → Prop}, M.ok → plc M s → l < M.L → Q (.int (stp M s l)) μ → wpE (g [mU M, .int s, .int l] μ) Q E
theorem law_next_s {C : Calls} : LawNextS (runDef 3 (b__law_next C)) := by
  constructor
  intro M s l μ Q E ok h hl q
  unfold b__law_next mU
  walk_at "go"
  obtain ⟨a, b⟩ := row_ok ok h
  by_cases hs : s = -1
  · subst hs
    rw [if_pos (by omega)]
    have : stp M (-1) l = -1 := by
      unfold stp rowOf
      rw [if_pos rfl, List.getD_eq_getElem?_getD, List.getElem?_replicate]
      split <;> rfl
    rw [this] at q
    exact q
  · rw [if_neg (by have := h.1; omega)]
    refine ⟨_, at_mv h hs, ?_⟩
    walk_at "go"
    refine ⟨.int (stp M s l), ?_, q⟩
    rw [Dg.atI_nat, List.getElem?_map]
    unfold stp
    rw [List.getD_eq_getElem?_getD, List.getElem?_eq_getElem (by omega)]
    rfl
structure LawEndsS (g : List U → Mem → Res U) : Prop where
  ap : ∀ {M : Mc} {s : Int} {μ : Mem} {Q : U → Mem → Prop} {E : Str → Mem → Prop}, M.ok → plc M s → Q (.bl (ends M s)) μ → wpE (g [mU M, .int s] μ) Q E
theorem law_ends_s {C : Calls} : LawEndsS (runDef 2 (b__law_ends C)) := by
  constructor
  intro M s μ Q E ok h q
  unfold b__law_ends mU
  walk_at "go"
  by_cases hs : s = -1
  · subst hs
    rw [if_neg (by simp)]
    exact q
  · rw [if_pos (by have := h.1; simp; omega)]
    exact ⟨_, at_ac ok h hs, q⟩
structure LawFirstS (g : List U → Mem → Res U) : Prop where
  ap : ∀ {M : Mc} {μ : Mem} {Q : U → Mem → Prop} {E : Str → Mem → Prop}, (∀ c, Q (.int (fst M)) (μ ++ [c])) → wpE (g [mU M] μ) Q E
theorem law_first_s {C : Calls} : LawFirstS (runDef 1 (b__law_first C)) := by
  constructor
  intro M μ Q E q
  unfold b__law_first mU
  walk_at "go"
  rw [w_ixL get_snoc]
  unfold fst at q
  cases h : M.mv with
  | nil => rw [h] at q; exact ⟨.int (-1), rfl, q _⟩
  | cons r rs => rw [h] at q; exact ⟨.int 0, by simp; rfl, q _⟩
theorem w_ixM1 {M : Mc} {μ : Mem} {Q : U → Mem → Prop} {E : Str → Mem → Prop} : wpE (ixU (mU M) (.int 1) μ) Q E = Q (.tup (M.mv.map rwU)) μ := propext ⟨fun h => h, fun h => h⟩
theorem set_set {α : Type} (l : List α) (i : Nat) (a b : α) : (l.set i a).set i b = l.set i b := by
  apply List.ext_getElem?
  intro j
  by_cases h : i = j
  · subst h
    by_cases hl : i < l.length
    · rw [List.getElem?_set_self (by simpa using hl), List.getElem?_set_self hl]
    · rw [List.getElem?_eq_none (by simp; omega), List.getElem?_eq_none (by simp; omega)]
  · rw [List.getElem?_set_ne h, List.getElem?_set_ne h, List.getElem?_set_ne h]
namespace Le
theorem mU_mc (M : Mc) : mU M = mcU M.L M.mv M.ac := rfl
theorem wf_of {M : Mc} (h : M.ok) : Wf M.L M.mv M.ac := ⟨h.ac, h.row⟩
theorem mcU_of {M : Mc} {μ : Mem} (h : M.ok) (hL : M.L ≤ 1000) (hn : M.mv.length ≤ 5000) (hnl : M.mv.length * M.L ≤ 900000) : McU M.L M.mv.length μ (.tup (M.mv.map rwU)) (.tup (M.ac.map U.bl)) M.mv M.ac := by
  refine ⟨⟨_, rfl, by simp, fun i w r h1 h2 => ?_⟩, rfl, wf_of h, rfl, hn, hL, hnl, fun xs h => nomatch h⟩
  rw [List.getElem?_map, h2] at h1
  cases h1
  rfl
theorem stp_le {M : Mc} {s : Int} {l : Nat} (h : plc M s) : Lw.stp M s l = Le.stp M.mv s l := by
  unfold Lw.stp Le.stp rowOf
  by_cases hs : s = -1
  · subst hs
    rw [if_pos rfl, if_pos (by omega), List.getD_eq_getElem?_getD, List.getElem?_replicate]
    split <;> rfl
  · rw [if_neg hs, if_neg (by have := h.1; omega)]
theorem ends_le {M : Mc} {s : Int} (h : plc M s) : ends M s = end_ M.ac s := by
  unfold ends end_
  by_cases hs : s = -1
  · subst hs
    rw [if_pos rfl, if_pos (by omega)]
  · rw [if_neg hs, if_neg (by have := h.1; omega)]
theorem lng_fst {M : Mc} (w : List Nat) : lng M.mv M.ac (fst M) w = lng M.mv M.ac 0 w ∨ M.mv = [] := by
  unfold fst
  cases h : M.mv with
  | nil => exact .inr rfl
  | cons r rs => exact .inl rfl
def Pr (M N : Mc) (p : Int × Int) : Prop := plc M p.1 ∧ plc N p.2 ∧ ∀ w, lng M.mv M.ac p.1 w = lng N.mv N.ac p.2 w
theorem Pr.next {M N : Mc} (oM : M.ok) (oN : N.ok) (eL : M.L = N.L) {p : Int × Int} (h : Pr M N p) {l : Nat} (hl : l < M.L) : Pr M N (Lw.stp M p.1 l, Lw.stp N p.2 l) := by
  refine ⟨stp_plc oM h.1 hl, stp_plc oN h.2.1 (by omega), fun w => ?_⟩
  show lng M.mv M.ac (Lw.stp M p.1 l) w = lng N.mv N.ac (Lw.stp N p.2 l) w
  rw [stp_le h.1, stp_le h.2.1]
  exact h.2.2 (l :: w)
theorem w_ixM0 {M : Mc} {μ : Mem} {Q : U → Mem → Prop} {E : Str → Mem → Prop} : wpE (ixU (mU M) (.int 0) μ) Q E = Q (.int (M.L : Nat)) μ := propext ⟨fun h => h, fun h => h⟩
theorem w_ixM2 {M : Mc} {μ : Mem} {Q : U → Mem → Prop} {E : Str → Mem → Prop} : wpE (ixU (mU M) (.int 2) μ) Q E = Q (.tup (M.ac.map U.bl)) μ := propext ⟨fun h => h, fun h => h⟩
structure PairsS (g : List U → Mem → Res U) : Prop where
  ap : ∀ {M N : Mc} {μ : Mem} {Q : U → Mem → Prop} {E : Str → Mem → Prop}, M.ok → N.ok → M.L = N.L → M.L ≤ 200 → M.mv.length ≤ 400 → N.mv.length ≤ 400 → ((M.mv.length + 1) * (N.mv.length + 1)) * M.L ≤ 900000 → Pr M N (fst M, fst N) →
    (∀ (r : Nat) (ps : List (Int × Int)) μ', Fr μ μ' → μ'[r]? = some (.lst (ps.map prU)) → ps.length ≤ 900001 → (∀ p ∈ ps, Pr M N p) → Q (.ref r) μ') → wpE (g [mU M, mU N] μ) Q E
def prIn (C : Calls) : FS := (sSeq (sAsg (.one 5) (fTup (aCons (fDef 3 (C 14) (aCons (fVar 0) (aCons (fOp ixU (fOp ixU (fVar 2) (fVar 3)) (fC (.int 0))) (aCons (fVar 4) aNil)))) (aCons (fDef 3 (C 14) (aCons (fVar 1) (aCons (fOp ixU (fOp ixU (fVar 2) (fVar 3)) (fC (.int 1))) (aCons (fVar 4) aNil)))) aNil))))
    (sIf (tstB (fOp uNin (fVar 5) (fVar 2))) (sExpr (fMtL gAppend (fVar 2) (aCons (fVar 5) aNil))) sNext))
theorem pr_is (C : Calls) : b__law_pairs C = (sSeq (sAsg (.one 2) (fLst (aCons (fTup (aCons (fDef 1 (C 16) (aCons (fVar 0) aNil)) (aCons (fDef 1 (C 16) (aCons (fVar 1) aNil)) aNil))) aNil)))
    (sSeq (sFor (iRg1 (fOp uMul (fOp uAdd (fCall bLen (aCons (fOp ixU (fVar 0) (fC (.int 1))) aNil)) (fC (.int 1))) (fOp uAdd (fCall bLen (aCons (fOp ixU (fVar 1) (fC (.int 1))) aNil)) (fC (.int 1))))) (.one 3) (sIf (tstB (fOp uLt (fVar 3) (fCall bLen (aCons (fVar 2) aNil)))) (sFor (iRg1 (fOp ixU (fVar 0) (fC (.int 0)))) (.one 4) (prIn C)) sNext))
    (sRet (fVar 2)))) := rfl
/-- one letter of one pair -/
theorem prIn_s {C : Calls} (h14 : LawNextS (C 14)) {M N : Mc} (oM : M.ok) (oN : N.ok) (eL : M.L = N.L) {r i l : Nat} {x5 : Option U} {μ : Mem} {ps : List (Int × Int)} {p : Int × Int} {D : Dn} (cr : μ[r]? = some (.lst (ps.map prU))) (hi : ps[i]? = some p) (hp : Pr M N p) (hl : l < M.L) (hlen : ps.length ≤ 900000)
    (q : ∀ (ps2 : List (Int × Int)) μ', (μ' = μ ∨ ∃ c, μ' = μ.set r c) → μ'[r]? = some (.lst (ps2.map prU)) → (ps2 = ps ∨ ps2 = ps ++ [(Lw.stp M p.1 l, Lw.stp N p.2 l)]) → D.nx [some (mU M), some (mU N), some (.ref r), some (.int (i : Nat)), some (.int (l : Nat)), some (prU (Lw.stp M p.1 l, Lw.stp N p.2 l))] μ') :
    Dg.wpS (prIn C [some (mU M), some (mU N), some (.ref r), some (.int (i : Nat)), some (.int (l : Nat)), x5] μ) D := by
  unfold prIn
  walk_at "gos"
  rw [w_ixL cr, Dg.atI_nat, List.getElem?_map, hi]
  refine ⟨_, rfl, ?_⟩
  unfold prU
  walk_at "gos"
  refine h14.ap oM hp.1 hl ?_
  try walk_at "gos"
  rw [w_ixL cr, Dg.atI_nat, List.getElem?_map, hi]
  refine ⟨_, rfl, ?_⟩
  unfold prU
  walk_at "gos"
  refine h14.ap oN hp.2.1 (by omega) ?_
  try walk_at "gos"
  have e : U.tup [.int (Lw.stp M p.1 l), .int (Lw.stp N p.2 l)] = prU (Lw.stp M p.1 l, Lw.stp N p.2 l) := rfl
  rw [e, w_ninP cr]
  generalize (Lw.stp M p.1 l, Lw.stp N p.2 l) = nx at q ⊢
  by_cases hm : nx ∈ ps
  · rw [decide_eq_true hm]
    walk_at "gos"
    exact q ps μ (.inl rfl) cr (.inl rfl)
  · rw [decide_eq_false hm]
    walk_at "gos"
    refine ⟨_, lstU_L cr, ?_⟩
    rw [w_append cr (by rw [List.length_map]; simp only [lim]; omega)]
    exact q (ps ++ [nx]) _ (.inr ⟨_, rfl⟩) (by rw [get_set cr]; simp) (.inr rfl)
theorem pairs_s {C : Calls} (h14 : LawNextS (C 14)) (h16 : LawFirstS (C 16)) : PairsS (runDef 6 (b__law_pairs C)) := by
  constructor
  intro M N μ Q E oM oN eL hL hM hN hb h0 q
  rw [pr_is]
  have inn := @prIn_s C h14 M N oM oN eL
  generalize prIn C = T at inn ⊢
  walk_at "gos"
  refine h16.ap fun c1 => ?_
  try walk_at "gos"
  refine h16.ap fun c2 => ?_
  try walk_at "gos"
  have f0 : Fr μ (μ ++ [c1] ++ [c2] ++ [Cell.lst [U.tup [.int (fst M), .int (fst N)]]]) := Fr.refl.snoc.snoc.snoc
  have c0 : (μ ++ [c1] ++ [c2] ++ [Cell.lst [U.tup [.int (fst M), .int (fst N)]]])[(μ ++ [c1] ++ [c2]).length]? = some (.lst ([(fst M, fst N)].map prU)) := get_snoc
  have lr : μ.length ≤ (μ ++ [c1] ++ [c2]).length := by simp
  generalize (μ ++ [c1] ++ [c2]).length = r at c0 lr ⊢
  generalize μ ++ [c1] ++ [c2] ++ [Cell.lst [U.tup [.int (fst M), .int (fst N)]]] = μ1 at f0 c0 ⊢
  rw [w_ixM1]
  walk_at "gos"
  rw [w_ixM1]
  walk_at "gos"
  rw [List.length_map, List.length_map]
  try rw [w_mulI]
  refine ⟨by unfold big64; simp; omega, ?_⟩
  rw [show ((M.mv.length : Nat) : Int) + 1 = ((M.mv.length + 1 : Nat) : Int) by omega, show ((N.mv.length : Nat) : Int) + 1 = ((N.mv.length + 1 : Nat) : Int) by omega, ← Int.natCast_mul]
  have hk : (M.mv.length + 1) * (N.mv.length + 1) ≤ 160801 := by
    calc (M.mv.length + 1) * (N.mv.length + 1) ≤ 401 * 401 := Nat.mul_le_mul (by omega) (by omega)
      _ = 160801 := by decide
  generalize (M.mv.length + 1) * (N.mv.length + 1) = K at hb hk
  refine ⟨by simp [okR]; omega, ?_⟩
  refine for_rng K (fun i s' μ' => ∃ (x3 x4 x5 : Option U) (ps : List (Int × Int)), s' = [some (mU M), some (mU N), some (.ref r), x3, x4, x5] ∧ Fr μ μ' ∧ μ'[r]? = some (.lst (ps.map prU)) ∧ ps.length ≤ 1 + i * M.L ∧ ∀ p ∈ ps, Pr M N p) (by simp) (by omega) ⟨_, _, _, [(fst M, fst N)], rfl, f0, c0, by simp, fun p hp => by simp at hp; subst hp; exact h0⟩ ?_ ?_
  · rintro i s' μ2 hi ⟨x3, x4, x5, ps, rfl, f, cr, hl, hp⟩
    refine ⟨_, rfl, ?_⟩
    have hil : i * M.L + M.L ≤ 900000 := by
      have : (i + 1) * M.L ≤ K * M.L := Nat.mul_le_mul_right _ hi
      rw [Nat.add_mul] at this; omega
    walk_at "gos"
    rw [w_lenL cr, List.length_map]
    try walk_at "gos"
    by_cases hat : i < ps.length
    · rw [if_pos (by omega)]
      rw [w_ixM0]
      try walk_at "gos"
      refine ⟨by simp [okR]; omega, ?_⟩
      have hpi := hp _ (List.getElem_mem hat)
      refine for_rng M.L (fun l s' μ' => ∃ (x4 x5 : Option U) (ps2 : List (Int × Int)), s' = [some (mU M), some (mU N), some (.ref r), some (.int (i : Nat)), x4, x5] ∧ Fr μ μ' ∧ μ'[r]? = some (.lst (ps2.map prU)) ∧ ps2.length ≤ ps.length + l ∧ (∀ p ∈ ps2, Pr M N p) ∧ ps2[i]? = some ps[i]) (by simp) (by omega) ⟨_, _, ps, rfl, f, cr, Nat.le_refl _, hp, List.getElem?_eq_getElem hat⟩ ?_ ?_
      · rintro l s' μ3 hll ⟨x4, x5, ps2, rfl, f3, cr3, hl3, hp3, hi3⟩
        refine ⟨_, rfl, ?_⟩
        refine inn cr3 hi3 hpi hll (by omega) fun ps4 μ4 h1 h2 h3 => ?_
        have f4 : Fr μ μ4 := by
          rcases h1 with rfl | ⟨c, rfl⟩
          · exact f3
          · exact f3.put lr
        have hnx := Pr.next oM oN eL hpi hll
        rcases h3 with rfl | rfl
        · exact ⟨_, _, _, rfl, f4, h2, by omega, hp3, hi3⟩
        · refine ⟨_, _, _, rfl, f4, h2, by simp; omega, fun p hp => ?_, ?_⟩
          · rcases List.mem_append.mp hp with hp | hp
            · exact hp3 p hp
            · simp at hp; subst hp; exact hnx
          · rw [List.getElem?_append_left (List.getElem?_eq_some_iff.mp hi3).1]; exact hi3
      · rintro s' μ3 ⟨x4, x5, ps2, rfl, f3, cr3, hl3, hp3, hi3⟩
        exact ⟨_, _, _, ps2, rfl, f3, cr3, by rw [Nat.add_mul]; omega, hp3⟩
    · rw [if_neg (by omega)]
      exact ⟨_, _, _, ps, rfl, f, cr, by rw [Nat.add_mul]; omega, hp⟩
  · rintro s' μ2 ⟨x3, x4, x5, ps, rfl, f, cr, hl, hp⟩
    try walk_at "gos"
    exact q r ps μ2 f cr (by omega) hp
structure AlikeS (g : List U → Mem → Res U) : Prop where
  ap : ∀ {M N : Mc} {μ : Mem} {Q : U → Mem → Prop} {E : Str → Mem → Prop}, M.ok → N.ok → M.L = N.L → M.L ≤ 200 → M.mv.length ≤ 400 → N.mv.length ≤ 400 → ((M.mv.length + 1) * (N.mv.length + 1)) * M.L ≤ 900000 → Pr M N (fst M, fst N) →
    (∀ μ', Fr μ μ' → Q (.bl true) μ') → wpE (g [mU M, mU N] μ) Q E
theorem alike_s {C : Calls} (h15 : LawEndsS (C 15)) (h17 : PairsS (C 17)) : AlikeS (runDef 3 (b__law_alike C)) := by
  constructor
  intro M N μ Q E oM oN eL hL hM hN hb h0 q
  unfold b__law_alike
  walk_at "gos"
  refine w_iseqS ?_
  walk_at "gos"
  refine h17.ap oM oN eL hL hM hN hb h0 fun r ps μ1 f1 c1 hl hp => ?_
  refine ⟨_, seq_Ls c1, fun j hj => ?_⟩
  refine lc_fm ps prU (fun _ => true) (fun _ => .bl true) (by omega) (fun i acc => hj _ (seq_Ls (get_snoc_lt c1)) i) (fun p hpm acc => ?_) ?_
  · obtain ⟨a, b, c⟩ := hp p hpm
    refine ⟨_, rfl, ?_⟩
    unfold prU
    walk_at "gos"
    intro _
    refine h15.ap oM a ?_
    refine h15.ap oN b ?_
    have := c []
    rw [lng_nil, lng_nil, ← ends_le a, ← ends_le b] at this
    rw [this]
    exact ⟨true, by rw [eq_bl]; simp, rfl, rfl⟩
  · rw [List.filter_eq_self.mpr (fun _ _ => rfl)]
    rw [w_allL get_snoc (blsU_map (fun _ => true) ps), show (ps.map fun _ => true).all id = true by simp]
    exact q _ f1.snoc
end Le
namespace Le
def gb (V : List Bool) (i : Nat) : Bool := V.getD i false
theorem gb_set {V : List Bool} {i j : Nat} (h : i < V.length) : gb (V.set i true) j = if i = j then true else gb V j := by
  unfold gb
  rw [List.getD_eq_getElem?_getD, List.getD_eq_getElem?_getD, List.getElem?_set]
  by_cases e : i = j
  · subst e; rw [if_pos rfl, if_pos rfl, if_pos h]; rfl
  · rw [if_neg e, if_neg e]
theorem gb_at {V : List Bool} {i : Nat} (h : i < V.length) : (V.map U.bl)[i]? = some (.bl (gb V i)) := by
  unfold gb
  rw [List.getElem?_map, List.getElem?_eq_getElem h, List.getD_eq_getElem?_getD, List.getElem?_eq_getElem h]
  rfl
structure UsefulS (g : List U → Mem → Res U) : Prop where
  ap : ∀ {M : Mc} {μ : Mem} {Q : U → Mem → Prop} {E : Str → Mem → Prop}, M.ok → M.L ≤ 200 → M.mv.length ≤ 400 →
    (∀ (V : List Bool) (r : Nat) μ', Fr μ μ' → μ.length ≤ r → μ'[r]? = some (.lst (V.map U.bl)) → V.length = M.mv.length → (∀ i : Nat, i < M.mv.length → (gb V i = true ↔ ∃ w, lng M.mv M.ac i w = true)) → Q (.ref r) μ') → wpE (g [mU M] μ) Q E
def Closed (M : Mc) (V : List Bool) : Prop := ∀ s : Nat, s < M.mv.length → ∀ t ∈ M.mv.getD s [], 0 ≤ t → gb V t.toNat = true → gb V s = true
def usIn (C : Calls) : FS := (sFor (iSeq (fOp ixU (fOp ixU (fVar 0) (fC (.int 1))) (fVar 3))) (.one 4) (sIf (tAn (tstB (fOp uGeX (fVar 4) (fC (.int 0)))) (tst (fOp ixU (fVar 1) (fVar 4)))) (sStore (fVar 1) (fVar 3) (fC (.bl true))) sNext))
theorem us_is (C : Calls) : b__law_useful C = (sSeq (sAsg (.one 1) (fCall bList (aCons (fOp ixU (fVar 0) (fC (.int 2))) aNil)))
    (sSeq (sFor (iRg1 (fCall bLen (aCons (fVar 1) aNil))) (.one 2) (sFor (iRg1 (fCall bLen (aCons (fVar 1) aNil))) (.one 3) (usIn C)))
    (sRet (fVar 1)))) := rfl
theorem row_at {M : Mc} {s : Nat} (h : s < M.mv.length) : M.mv.getD s [] = M.mv[s] := by rw [List.getD_eq_getElem?_getD, List.getElem?_eq_getElem h]; rfl
/-- one state -/
theorem usIn_s {C : Calls} {M : Mc} (ok : M.ok) (hL : M.L ≤ 200) {r s : Nat} {x2 x4 : Option U} {μ : Mem} {V : List Bool} {D : Dn} (hs : s < M.mv.length) (cr : μ[r]? = some (.lst (V.map U.bl))) (hV : V.length = M.mv.length)
    (q : ∀ x4 (V' : List Bool) μ', (∃ c, μ' = μ ∨ μ' = μ.set r c) → μ'[r]? = some (.lst (V'.map U.bl)) → V'.length = M.mv.length → (V' = V ∨ ((∃ t ∈ M.mv.getD s [], 0 ≤ t ∧ gb V t.toNat = true) ∧ V' = V.set s true)) → (∀ t ∈ M.mv.getD s [], 0 ≤ t → gb V t.toNat = true → gb V' s = true) → D.nx [some (mU M), some (.ref r), x2, some (.int (s : Nat)), x4] μ') :
    Dg.wpS (usIn C [some (mU M), some (.ref r), x2, some (.int (s : Nat)), x4] μ) D := by
  obtain ⟨hrl, hrt⟩ := ok.row _ (List.getElem_mem hs)
  rw [row_at hs] at q
  unfold usIn
  walk_at "gos"
  refine w_iseqS ?_
  walk_at "gos"
  rw [w_ixM1]
  walk_at "gos"
  rw [Dg.atI_nat, List.getElem?_map, List.getElem?_eq_getElem hs]
  refine ⟨_, rfl, M.mv[s].map U.int, rfl, fun j hj => ?_⟩
  refine for_it (M.mv[s].map U.int) (fun k s' μ' => ∃ (x4 : Option U) (V' : List Bool), s' = [some (mU M), some (.ref r), x2, some (.int (s : Nat)), x4] ∧ (∃ c, μ' = μ ∨ μ' = μ.set r c) ∧ μ'[r]? = some (.lst (V'.map U.bl)) ∧ V'.length = M.mv.length ∧ (V' = V ∨ ((∃ t ∈ M.mv[s], 0 ≤ t ∧ gb V t.toNat = true) ∧ V' = V.set s true)) ∧
      (∀ t ∈ M.mv[s].take k, 0 ≤ t → gb V t.toNat = true → gb V' s = true)) (by simp; omega) ⟨x4, V, rfl, ⟨.lst [], .inl rfl⟩, cr, hV, .inl rfl, fun t ht => by simp at ht⟩ (fun k s' μ' _ => hj μ' rfl k) ?_ ?_
  · rintro k s' μ2 hk ⟨x4, V', rfl, hμ, cr2, hV2, hor, hdone⟩
    have hk' : k < M.mv[s].length := by simpa using hk
    rw [List.getElem_map]
    refine ⟨_, rfl, ?_⟩
    have ht := hrt _ (List.getElem_mem hk')
    have htm := List.getElem_mem hk'
    rw [show M.mv[s].take (k + 1) = M.mv[s].take k ++ [M.mv[s][k]] by rw [List.take_append_getElem]]
    generalize M.mv[s][k] = t at ht htm
    walk_at "gos"
    by_cases h0 : 0 ≤ t
    · obtain ⟨tn, rfl⟩ := Int.eq_ofNat_of_zero_le h0
      rw [if_pos (by simp [h0])]
      rw [w_ixL cr2, Dg.atI_nat, gb_at (by omega)]
      refine ⟨_, rfl, _, tru_b, ?_⟩
      have hgb : gb V tn = true → gb V' tn = true := by
        intro h
        rcases hor with rfl | ⟨_, rfl⟩
        · exact h
        · rw [gb_set (by omega)]; split; rfl; exact h
      cases hb : gb V' tn with
      | false =>
        walk_at "gos"
        refine ⟨_, V', rfl, hμ, cr2, hV2, hor, fun t' ht' h1 h2 => ?_⟩
        rcases List.mem_append.mp ht' with h | h
        · exact hdone t' h h1 h2
        · simp at h; subst h
          rw [Int.toNat_natCast] at h2
          rw [hgb h2] at hb; cases hb
      | true =>
        walk_at "gos"
        refine ⟨_, stU_L (j := s) cr2 (by unfold ixN; simp [hV2, hs]), ?_⟩
        have hex : ∃ t ∈ M.mv[s], 0 ≤ t ∧ gb V t.toNat = true := by
          rcases hor with rfl | ⟨h, _⟩
          · exact ⟨_, htm, by omega, by rw [Int.toNat_natCast]; exact hb⟩
          · exact h
        have e : (V'.map U.bl).set s (.bl true) = (V.set s true).map U.bl := by
          rcases hor with rfl | ⟨_, rfl⟩
          · rw [List.map_set]
          · rw [List.map_set, List.set_set]
        refine ⟨_, V.set s true, rfl, ?_, by rw [get_set cr2, e], by simp [hV], .inr ⟨hex, rfl⟩, fun t' ht' h1 h2 => by rw [gb_set (by omega), if_pos rfl]⟩
        obtain ⟨c, rfl | rfl⟩ := hμ
        · exact ⟨_, .inr rfl⟩
        · exact ⟨_, .inr (by rw [List.set_set])⟩
    · rw [if_neg (by simp; omega)]
      try walk_at "gos"
      refine ⟨_, V', rfl, hμ, cr2, hV2, hor, fun t' ht' h1 h2 => ?_⟩
      rcases List.mem_append.mp ht' with h | h
      · exact hdone t' h h1 h2
      · simp at h; subst h; omega
  · rintro s' μ2 ⟨x4, V', rfl, hμ, cr2, hV2, hor, hdone⟩
    rw [List.length_map, List.take_length] at hdone
    exact q x4 V' μ2 hμ cr2 hV2 hor hdone
def uCond (M : Mc) (V : List Bool) (V1 : List Bool) (k : Nat) : Prop := V1.length = M.mv.length ∧ (∀ i, gb V i = true → gb V1 i = true) ∧ (∀ i : Nat, i < M.mv.length → gb V1 i = true → ∃ w, lng M.mv M.ac i w = true) ∧ (∀ s : Nat, s < k → s < M.mv.length → ∀ t ∈ M.mv.getD s [], 0 ≤ t → gb V t.toNat = true → gb V1 s = true) ∧ (Closed M V → V1 = V)
theorem useful_s {C : Calls} : UsefulS (runDef 5 (b__law_useful C)) := by
  constructor
  intro M μ Q E ok hL hn q
  rw [us_is]
  have inn := @usIn_s C M ok hL
  generalize usIn C = T at inn ⊢
  walk_at "gos"
  rw [w_ixM2]
  have e1 : bList [.tup (M.ac.map U.bl)] μ = .ok (.ref μ.length) (μ ++ [.lst (M.ac.map U.bl)]) := rfl
  rw [e1]
  have c0 : (μ ++ [Cell.lst (M.ac.map U.bl)])[μ.length]? = some (.lst (M.ac.map U.bl)) := get_snoc
  have f0 : Fr μ (μ ++ [Cell.lst (M.ac.map U.bl)]) := Fr.refl.snoc
  generalize μ ++ [Cell.lst (M.ac.map U.bl)] = μ1 at c0 f0
  have hac := ok.ac
  have len0 : ∀ {μ' : Mem} {V : List Bool} {Q : U → Mem → Prop} {E : Str → Mem → Prop}, μ'[μ.length]? = some (.lst (V.map U.bl)) → V.length = M.mv.length → Q (.int (M.mv.length : Nat)) μ' → wpE (bLen [.ref μ.length] μ') Q E := fun h1 h2 h3 => by
    rw [w_lenL h1, List.length_map, h2]; exact h3
  have sound0 : ∀ i : Nat, i < M.mv.length → gb M.ac i = true → ∃ w, lng M.mv M.ac i w = true := fun i hi h => ⟨[], by
    rw [lng_nil]
    unfold end_
    rw [if_neg (by omega), Int.toNat_natCast]
    exact h⟩
  show wpE (bLen [.ref μ.length] μ1) _ _
  refine len0 c0 hac ?_
  refine ⟨_, rfl, by simp [okR]; omega, ?_⟩
  refine for_rng M.mv.length (fun k s' μ' => ∃ (x2 x3 x4 : Option U) (V : List Bool), s' = [some (mU M), some (.ref μ.length), x2, x3, x4] ∧ Fr μ μ' ∧ μ'[μ.length]? = some (.lst (V.map U.bl)) ∧ V.length = M.mv.length ∧ (∀ i : Nat, i < M.mv.length → gb V i = true → ∃ w, lng M.mv M.ac i w = true) ∧
      (∀ i, gb M.ac i = true → gb V i = true) ∧ (Closed M V ∨ k + 1 ≤ (List.range M.mv.length).countP (gb V))) (by simp) (by omega) ⟨_, _, _, M.ac, rfl, f0, c0, hac, sound0, fun i h => h, ?_⟩ ?_ ?_
  · by_cases h : ∃ i, i < M.mv.length ∧ gb M.ac i = true
    · obtain ⟨i, h1, h2⟩ := h
      refine .inr ?_
      have : 0 < (List.range M.mv.length).countP (gb M.ac) := List.countP_pos_iff.mpr ⟨i, List.mem_range.mpr h1, h2⟩
      omega
    · refine .inl fun s hs t ht h0 h1 => ?_
      have hrow := ok.row _ (List.getElem_mem hs)
      rw [row_at hs] at ht
      exact absurd ⟨t.toNat, by have := hrow.2 t ht; omega, h1⟩ h
  · rintro k s' μ2 hk ⟨x2, x3, x4, V, rfl, f2, c2, hV, snd, mono, prog⟩
    refine ⟨_, rfl, ?_⟩
    walk_at "gos"
    refine len0 c2 hV ?_
    refine ⟨_, rfl, by simp [okR]; omega, ?_⟩
    refine for_rng M.mv.length (fun i s' μ' => ∃ (x3 x4 : Option U) (V1 : List Bool), s' = [some (mU M), some (.ref μ.length), some (.int (k : Nat)), x3, x4] ∧ Fr μ μ' ∧ μ'[μ.length]? = some (.lst (V1.map U.bl)) ∧ uCond M V V1 i) (by simp) (by omega) ⟨_, _, V, rfl, f2, c2, hV, fun i h => h, snd, fun s hs => by omega, fun _ => rfl⟩ ?_ ?_
    · rintro i s' μ3 hi ⟨x3, x4, V1, rfl, f3, c3, d1, d2, d3, d4, d5⟩
      refine ⟨_, rfl, ?_⟩
      refine inn hi c3 d1 fun x4 V2 μ4 hμ c4 hl2 hor hdone => ?_
      have hm2 : ∀ i, gb V1 i = true → gb V2 i = true := by
        intro j h
        rcases hor with rfl | ⟨_, rfl⟩
        · exact h
        · rw [gb_set (by omega)]; split; rfl; exact h
      refine ⟨_, _, V2, rfl, ?_, c4, hl2, fun j h => hm2 j (d2 j h), fun j hj h => ?_, fun s hs hs2 t ht h0 h1 => ?_, fun hc => ?_⟩
      · obtain ⟨c, rfl | rfl⟩ := hμ
        · exact f3
        · exact f3.put (Nat.le_refl _)
      · rcases hor with rfl | ⟨⟨t, ht, h0, h1⟩, rfl⟩
        · exact d3 j hj h
        · rw [gb_set (by omega)] at h
          by_cases e : i = j
          · subst e
            have hrow := ok.row _ (List.getElem_mem hi)
            rw [row_at hi] at ht
            obtain ⟨w, hw⟩ := d3 t.toNat (by have := hrow.2 t ht; omega) h1
            obtain ⟨a, ha⟩ := List.getElem?_of_mem ht
            refine ⟨a :: w, ?_⟩
            rw [lng_cons]
            have : Le.stp M.mv (i : Int) a = t := by
              unfold Le.stp
              rw [if_neg (by omega), Int.toNat_natCast, row_at hi, List.getD_eq_getElem?_getD, ha]; rfl
            rw [this, ← Int.toNat_of_nonneg h0]
            exact hw
          · rw [if_neg e] at h
            exact d3 j hj h
      · by_cases e : s = i
        · subst e
          exact hdone t ht h0 (d2 _ h1)
        · exact hm2 s (d4 s (by omega) hs2 t ht h0 h1)
      · have e1 := d5 hc
        subst e1
        rcases hor with rfl | ⟨⟨t, ht, h0, h1⟩, rfl⟩
        · rfl
        · have := hc i hi t ht h0 h1
          refine List.ext_getElem? fun j => ?_
          rw [List.getElem?_set]
          by_cases e : i = j
          · subst e
            rw [if_pos rfl, if_pos (by omega)]
            unfold gb at this
            rw [List.getD_eq_getElem?_getD, List.getElem?_eq_getElem (by omega)] at this
            rw [List.getElem?_eq_getElem (by omega)]
            simpa using this.symm
          · rw [if_neg e]
    · rintro s' μ3 ⟨x3, x4, V1, rfl, f3, c3, d1, d2, d3, d4, d5⟩
      refine ⟨_, _, _, V1, rfl, f3, c3, d1, d3, fun i h => d2 i (mono i h), ?_⟩
      by_cases hc : Closed M V
      · rw [d5 hc]; exact .inl hc
      · rcases prog with h | h
        · exact absurd h hc
        · refine .inr ?_
          have : ∃ s, s < M.mv.length ∧ ∃ t ∈ M.mv.getD s [], 0 ≤ t ∧ gb V t.toNat = true ∧ gb V s ≠ true := by
            apply Classical.byContradiction
            intro hx
            apply hc
            intro s hs t ht h0 h1
            apply Classical.byContradiction
            intro h2
            exact hx ⟨s, hs, t, ht, h0, h1, h2⟩
          obtain ⟨s, hs, t, ht, h0, h1, h2⟩ := this
          have := countP_lt (p := gb V) (q := gb V1) (a := s) (List.mem_range.mpr hs) (by simpa using h2) (d4 s hs hs t ht h0 h1) fun x _ h => d2 x h
          omega
  · rintro s' μ2 ⟨x2, x3, x4, V, rfl, f2, c2, hV, snd, mono, prog⟩
    try walk_at "gos"
    refine q V _ μ2 f2 (Nat.le_refl _) c2 hV fun i hi => ⟨snd i hi, fun ⟨w, hw⟩ => ?_⟩
    have hc : Closed M V := by
      rcases prog with h | h
      · exact h
      · have := List.countP_le_length (p := gb V) (l := List.range M.mv.length)
        rw [List.length_range] at this
        omega
    have all : ∀ (w : List Nat) (s : Nat), s < M.mv.length → lng M.mv M.ac s w = true → gb V s = true := by
      intro w
      induction w with
      | nil =>
        intro s hs h
        refine mono s ?_
        rw [lng_nil] at h
        unfold end_ at h
        rw [if_neg (by omega), Int.toNat_natCast] at h
        exact h
      | cons a w ih =>
        intro s hs h
        rw [lng_cons] at h
        have b := (wf_of ok).stp_in (s := (s : Int)) (a := a)
        by_cases hneg : Le.stp M.mv s a < 0
        · rw [lng_neg hneg] at h; cases h
        · obtain ⟨t, ht⟩ := Int.eq_ofNat_of_zero_le (a := Le.stp M.mv s a) (by omega)
          rw [ht] at h b
          refine hc s hs t ?_ (by omega) (by rw [Int.toNat_natCast]; exact ih t (by omega) h)
          unfold Le.stp at ht
          rw [if_neg (by omega), Int.toNat_natCast, List.getD_eq_getElem?_getD (l := M.mv.getD s [])] at ht
          cases e : (M.mv.getD s [])[a]? with
          | none => rw [e] at ht; simp at ht
          | some z => rw [e] at ht; simp at ht; rw [← ht]; exact List.mem_of_getElem? e
    exact all w i hi hw
end Le
namespace Le
/-! rounds of kinds, without memory -/
def gi (K : List Int) (i : Nat) : Int := K.getD i 0
def kap (K : List Int) (t : Int) : Int := if 0 ≤ t then gi K t.toNat else 0
def mkR (M : Mc) (V : List Bool) (K : List Int) (s : Nat) : List Int := gi K s :: (M.mv.getD s []).map fun t => if gb V s = true then kap K t else 0
def ixM (M : Mc) (V : List Bool) (K : List Int) (s : Nat) : Nat := ((List.range M.mv.length).findIdx fun z => decide (mkR M V K z = mkR M V K s))
def rnd (M : Mc) (V : List Bool) (K : List Int) : List Int := (List.range M.mv.length).map fun s => (if gb V s = true then 1 else 0) * (1 + (ixM M V K s : Int))
def k0 (M : Mc) (V : List Bool) : List Int := (List.range M.mv.length).map fun s => (if gb V s = true then (1 : Int) else 0) + (if gb M.ac s = true then 1 else 0)
def itK (M : Mc) (V : List Bool) : Nat → List Int
  | 0 => k0 M V
  | r + 1 => rnd M V (itK M V r)
structure Us (M : Mc) (V : List Bool) : Prop where
  ok : M.ok
  len : V.length = M.mv.length
  us : ∀ i : Nat, i < M.mv.length → (gb V i = true ↔ ∃ w, lng M.mv M.ac i w = true)
section
variable {M : Mc} {V : List Bool}
theorem gi_map {f : Nat → Int} {n s : Nat} (h : s < n) : gi ((List.range n).map f) s = f s := by
  unfold gi
  rw [List.getD_eq_getElem?_getD, List.getElem?_map, List.getElem?_range h]
  rfl
theorem itK_len : ∀ r, (itK M V r).length = M.mv.length
  | 0 => by simp [itK, k0]
  | r + 1 => by simp [itK, rnd]
theorem end_gb {s : Nat} : end_ M.ac s = gb M.ac s := by unfold end_ gb; rw [if_neg (by omega), Int.toNat_natCast]
theorem Us.ac (U : Us M V) {s : Nat} (h : s < M.mv.length) (ha : gb M.ac s = true) : gb V s = true := (U.us s h).mpr ⟨[], by rw [lng_nil, end_gb]; exact ha⟩
theorem ixM_sp {K : List Int} {s : Nat} (h : s < M.mv.length) : ixM M V K s < M.mv.length ∧ mkR M V K (ixM M V K s) = mkR M V K s := by
  unfold ixM
  have hex : ∃ x ∈ List.range M.mv.length, decide (mkR M V K x = mkR M V K s) = true := ⟨s, List.mem_range.mpr h, by simp⟩
  have hlt := List.findIdx_lt_length_of_exists hex
  have := List.findIdx_getElem (w := hlt)
  rw [List.length_range] at hlt
  rw [List.getElem_range] at this
  exact ⟨hlt, of_decide_eq_true this⟩
theorem ixM_eq {K : List Int} {s t : Nat} (hs : s < M.mv.length) (ht : t < M.mv.length) : ixM M V K s = ixM M V K t ↔ mkR M V K s = mkR M V K t := by
  constructor
  · intro e
    rw [← (ixM_sp hs).2, ← (ixM_sp ht).2, e]
  · intro e
    unfold ixM
    rw [e]
theorem K_pos (U : Us M V) : ∀ (r : Nat) {s : Nat}, s < M.mv.length → (gb V s = true → 1 ≤ gi (itK M V r) s) ∧ (gb V s = false → gi (itK M V r) s = 0)
  | 0, s, hs => by
    show (_ → 1 ≤ gi (k0 M V) s) ∧ (_ → gi (k0 M V) s = 0)
    unfold k0
    rw [gi_map hs]
    constructor
    · intro h; rw [if_pos h]; split <;> omega
    · intro h
      rw [if_neg (by rw [h]; decide), if_neg fun ha => by rw [U.ac hs ha] at h; cases h]
      rfl
  | r + 1, s, hs => by
    show (_ → 1 ≤ gi (rnd M V (itK M V r)) s) ∧ (_ → gi (rnd M V (itK M V r)) s = 0)
    unfold rnd
    rw [gi_map hs]
    constructor
    · intro h; rw [if_pos h]; omega
    · intro h; rw [if_neg (by rw [h]; decide)]; omega
theorem K_succ (U : Us M V) {r s t : Nat} (hs : s < M.mv.length) (ht : t < M.mv.length) (h1 : gb V s = true) (h2 : gb V t = true) : gi (itK M V (r + 1)) s = gi (itK M V (r + 1)) t ↔ mkR M V (itK M V r) s = mkR M V (itK M V r) t := by
  show gi (rnd M V (itK M V r)) s = gi (rnd M V (itK M V r)) t ↔ _
  unfold rnd
  rw [gi_map hs, gi_map ht, if_pos h1, if_pos h2, ← ixM_eq hs ht]
  omega
theorem K_same (U : Us M V) {r s t : Nat} (hs : s < M.mv.length) (ht : t < M.mv.length) (h : gi (itK M V r) s = gi (itK M V r) t) : gb V s = gb V t := by
  have a := K_pos U r hs
  have b := K_pos U r ht
  cases h1 : gb V s with
  | true =>
    cases h2 : gb V t with
    | true => rfl
    | false => have := a.1 h1; have := b.2 h2; omega
  | false =>
    cases h2 : gb V t with
    | true => have := a.2 h1; have := b.1 h2; omega
    | false => rfl
theorem K_h1 (U : Us M V) (r s t : Nat) (hs : s < M.mv.length) (ht : t < M.mv.length) (h : gi (itK M V (r + 1)) s = gi (itK M V (r + 1)) t) : gi (itK M V r) s = gi (itK M V r) t := by
  have hu := K_same U hs ht h
  cases h1 : gb V s with
  | true =>
    have h2 : gb V t = true := by rw [← hu]; exact h1
    have := (K_succ U hs ht h1 h2).mp h
    unfold mkR at this
    exact (List.cons.inj this).1
  | false =>
    have h2 : gb V t = false := by rw [← hu]; exact h1
    rw [(K_pos U r hs).2 h1, (K_pos U r ht).2 h2]
/-- marks by what is behind -/
theorem mk_iff (U : Us M V) {K : List Int} {s t : Nat} (hs : s < M.mv.length) (ht : t < M.mv.length) (h1 : gb V s = true) (h2 : gb V t = true) : mkR M V K s = mkR M V K t ↔ gi K s = gi K t ∧ ∀ a, a < M.L → kap K (Le.stp M.mv s a) = kap K (Le.stp M.mv t a) := by
  have ls := (U.ok.row _ (List.getElem_mem hs)).1
  have lt := (U.ok.row _ (List.getElem_mem ht)).1
  have e : ∀ {x : Nat} (hx : x < M.mv.length) (lx : M.mv[x].length = M.L) (a : Nat) (ha : a < M.L), Le.stp M.mv x a = M.mv[x][a]'(by omega) := fun {x} hx lx a ha => by
    unfold Le.stp
    rw [if_neg (by omega), Int.toNat_natCast, row_at hx, List.getD_eq_getElem?_getD, List.getElem?_eq_getElem (by omega)]; rfl
  unfold mkR
  rw [row_at hs, row_at ht, List.cons.injEq, h1, h2]
  simp only [if_true]
  constructor
  · rintro ⟨a, b⟩
    refine ⟨a, fun l hl => ?_⟩
    rw [e hs ls l hl, e ht lt l hl]
    have := congrArg (fun z => z[l]?) b
    simp only [List.getElem?_map] at this
    rw [List.getElem?_eq_getElem (by omega), List.getElem?_eq_getElem (by omega)] at this
    simpa using this
  · rintro ⟨a, b⟩
    refine ⟨a, List.ext_getElem (by simp [ls, lt]) fun l h3 h4 => ?_⟩
    rw [List.length_map] at h3 h4
    have := b l (by omega)
    rw [e hs ls l (by omega), e ht lt l (by omega)] at this
    simpa using this
theorem kap_step (U : Us M V) {r : Nat} (st : ∀ s t, s < M.mv.length → t < M.mv.length → gi (itK M V r) s = gi (itK M V r) t → gi (itK M V (r + 1)) s = gi (itK M V (r + 1)) t) {x y : Int} (hx : x < M.mv.length) (hy : y < M.mv.length) (h : kap (itK M V r) x = kap (itK M V r) y) : kap (itK M V (r + 1)) x = kap (itK M V (r + 1)) y := by
  have zero : ∀ {z : Int}, 0 ≤ z → z < M.mv.length → gi (itK M V r) z.toNat = 0 → gi (itK M V (r + 1)) z.toNat = 0 := fun {z} h0 h1 h2 => by
    cases hb : gb V z.toNat with
    | true => have := (K_pos U r (s := z.toNat) (by omega)).1 hb; omega
    | false => exact (K_pos U (r + 1) (by omega)).2 hb
  unfold kap at h ⊢
  by_cases c1 : 0 ≤ x
  · by_cases c2 : 0 ≤ y
    · rw [if_pos c1, if_pos c2] at h ⊢
      exact st _ _ (by omega) (by omega) h
    · rw [if_pos c1, if_neg c2] at h ⊢
      exact zero c1 hx h
  · by_cases c2 : 0 ≤ y
    · rw [if_neg c1, if_pos c2] at h ⊢
      exact (zero c2 hy h.symm).symm
    · rw [if_neg c1, if_neg c2]
theorem K_h2 (U : Us M V) (r : Nat) (st : ∀ s t, s < M.mv.length → t < M.mv.length → gi (itK M V r) s = gi (itK M V r) t → gi (itK M V (r + 1)) s = gi (itK M V (r + 1)) t) (s t : Nat) (hs : s < M.mv.length) (ht : t < M.mv.length) (h : gi (itK M V (r + 1)) s = gi (itK M V (r + 1)) t) : gi (itK M V (r + 2)) s = gi (itK M V (r + 2)) t := by
  have hu := K_same U hs ht h
  cases h1 : gb V s with
  | true =>
    have h2 : gb V t = true := by rw [← hu]; exact h1
    obtain ⟨_, b⟩ := (mk_iff U hs ht h1 h2).mp ((K_succ U hs ht h1 h2).mp h)
    exact (K_succ U hs ht h1 h2).mpr ((mk_iff U hs ht h1 h2).mpr ⟨h, fun a ha => kap_step U st (wf_of U.ok).stp_in.2 (wf_of U.ok).stp_in.2 (b a ha)⟩)
  | false =>
    have h2 : gb V t = false := by rw [← hu]; exact h1
    rw [(K_pos U (r + 2) hs).2 h1, (K_pos U (r + 2) ht).2 h2]
theorem dead_of (U : Us M V) {s : Nat} (hs : s < M.mv.length) (h : gb V s = false) (w : List Nat) : lng M.mv M.ac s w = false := by
  cases hb : lng M.mv M.ac s w with
  | false => rfl
  | true => rw [(U.us s hs).mpr ⟨w, hb⟩] at h; cases h
theorem K_lang (U : Us M V) : ∀ (r : Nat) {s t : Nat}, s < M.mv.length → t < M.mv.length → (∀ w, lng M.mv M.ac s w = lng M.mv M.ac t w) → gi (itK M V r) s = gi (itK M V r) t := by
  intro r
  have same : ∀ {s t : Nat}, s < M.mv.length → t < M.mv.length → (∀ w, lng M.mv M.ac s w = lng M.mv M.ac t w) → gb V s = gb V t := by
    intro s t hs ht h
    have : (gb V s = true ↔ gb V t = true) := by
      rw [U.us s hs, U.us t ht]
      exact ⟨fun ⟨w, hw⟩ => ⟨w, by rw [← h]; exact hw⟩, fun ⟨w, hw⟩ => ⟨w, by rw [h]; exact hw⟩⟩
    cases h1 : gb V s <;> cases h2 : gb V t <;> simp_all
  induction r with
  | zero =>
    intro s t hs ht h
    show gi (k0 M V) s = gi (k0 M V) t
    unfold k0
    rw [gi_map hs, gi_map ht, same hs ht h]
    have := h []
    rw [lng_nil, lng_nil, end_gb, end_gb] at this
    rw [this]
  | succ r ih =>
    intro s t hs ht h
    have hu := same hs ht h
    cases h1 : gb V s with
    | true =>
      have h2 : gb V t = true := by rw [← hu]; exact h1
      refine (K_succ U hs ht h1 h2).mpr ((mk_iff U hs ht h1 h2).mpr ⟨ih hs ht h, fun a ha => ?_⟩)
      have hst : ∀ w, lng M.mv M.ac (Le.stp M.mv s a) w = lng M.mv M.ac (Le.stp M.mv t a) w := fun w => h (a :: w)
      have b1 := (wf_of U.ok).stp_in (s := (s : Int)) (a := a)
      have b2 := (wf_of U.ok).stp_in (s := (t : Int)) (a := a)
      generalize Le.stp M.mv s a = x at hst b1
      generalize Le.stp M.mv t a = y at hst b2
      have zero : ∀ {z : Int}, 0 ≤ z → z < M.mv.length → (∀ w, lng M.mv M.ac z w = false) → gi (itK M V r) z.toNat = 0 := fun {z} h0 h1 h2 => by
        refine (K_pos U r (by omega)).2 ?_
        cases hb : gb V z.toNat with
        | false => rfl
        | true =>
          obtain ⟨w, hw⟩ := (U.us z.toNat (by omega)).mp hb
          rw [Int.toNat_of_nonneg h0, h2] at hw
          cases hw
      unfold kap
      by_cases c1 : 0 ≤ x
      · by_cases c2 : 0 ≤ y
        · rw [if_pos c1, if_pos c2]
          exact ih (by omega) (by omega) (by rw [Int.toNat_of_nonneg c1, Int.toNat_of_nonneg c2]; exact hst)
        · rw [if_pos c1, if_neg c2]
          exact zero c1 b1.2 fun w => by rw [hst, lng_neg (by omega)]
      · by_cases c2 : 0 ≤ y
        · rw [if_neg c1, if_pos c2]
          exact (zero c2 b2.2 fun w => by rw [← hst, lng_neg (by omega)]).symm
        · rw [if_neg c1, if_neg c2]
    | false =>
      have h2 : gb V t = false := by rw [← hu]; exact h1
      rw [(K_pos U (r + 1) hs).2 h1, (K_pos U (r + 1) ht).2 h2]
theorem K_down (U : Us M V) {s t : Nat} (hs : s < M.mv.length) (ht : t < M.mv.length) : ∀ r, gi (itK M V r) s = gi (itK M V r) t → gi (itK M V 0) s = gi (itK M V 0) t
  | 0, h => h
  | r + 1, h => K_down U hs ht r (K_h1 U r s t hs ht h)
/-- the last kinds tell languages apart, and no more -/
theorem K_end (U : Us M V) {s t : Nat} (hs : s < M.mv.length) (ht : t < M.mv.length) : gi (itK M V M.mv.length) s = gi (itK M V M.mv.length) t ↔ ∀ w, lng M.mv M.ac s w = lng M.mv M.ac t w := by
  refine ⟨fun h w => ?_, K_lang U _ hs ht⟩
  have st := rounds (n := M.mv.length) (K := fun r s => gi (itK M V r) s) (fun r s t hs ht h => K_h1 U r s t hs ht h) (fun r st s t hs ht h => K_h2 U r st s t hs ht h)
  have all : ∀ (w : List Nat) (s t : Nat), s < M.mv.length → t < M.mv.length → gi (itK M V M.mv.length) s = gi (itK M V M.mv.length) t → lng M.mv M.ac s w = lng M.mv M.ac t w := by
    intro w
    induction w with
    | nil =>
      intro s t hs ht h
      have h0 := K_down U hs ht _ h
      have hu := K_same U hs ht h0
      have : gi (k0 M V) s = gi (k0 M V) t := h0
      unfold k0 at this
      rw [gi_map hs, gi_map ht, hu] at this
      rw [lng_nil, lng_nil, end_gb, end_gb]
      generalize (if gb V t = true then (1 : Int) else 0) = z at this
      cases h1 : gb M.ac s <;> cases h2 : gb M.ac t <;> rw [h1, h2] at this <;> simp at this <;> first | rfl | omega
    | cons a w ih =>
      intro s t hs ht h
      have hu := K_same U hs ht h
      cases h1 : gb V s with
      | false =>
        have h2 : gb V t = false := by rw [← hu]; exact h1
        rw [dead_of U hs h1, dead_of U ht h2]
      | true =>
        have h2 : gb V t = true := by rw [← hu]; exact h1
        rw [lng_cons, lng_cons]
        by_cases ha : a < M.L
        · obtain ⟨_, b⟩ := (mk_iff U hs ht h1 h2).mp ((K_succ U hs ht h1 h2).mp (st s t hs ht h))
          have hk := b a ha
          have b1 := (wf_of U.ok).stp_in (s := (s : Int)) (a := a)
          have b2 := (wf_of U.ok).stp_in (s := (t : Int)) (a := a)
          generalize Le.stp M.mv s a = x at hk b1
          generalize Le.stp M.mv t a = y at hk b2
          have zero : ∀ {z : Int}, 0 ≤ z → z < M.mv.length → gi (itK M V M.mv.length) z.toNat = 0 → lng M.mv M.ac z w = false := fun {z} h0 h1 h2 => by
            rw [← Int.toNat_of_nonneg h0]
            refine dead_of U (by omega) ?_ w
            cases hb : gb V z.toNat with
            | false => rfl
            | true => have := (K_pos U M.mv.length (s := z.toNat) (by omega)).1 hb; omega
          unfold kap at hk
          by_cases c1 : 0 ≤ x
          · by_cases c2 : 0 ≤ y
            · rw [if_pos c1, if_pos c2] at hk
              have := ih x.toNat y.toNat (by omega) (by omega) hk
              rwa [Int.toNat_of_nonneg c1, Int.toNat_of_nonneg c2] at this
            · rw [if_pos c1, if_neg c2] at hk
              rw [zero c1 b1.2 hk, lng_neg (by omega)]
          · by_cases c2 : 0 ≤ y
            · rw [if_neg c1, if_pos c2] at hk
              rw [zero c2 b2.2 hk.symm, lng_neg (by omega)]
            · rw [lng_neg (by omega), lng_neg (by omega)]
        · rw [(wf_of U.ok).stp_big (by omega), (wf_of U.ok).stp_big (by omega)]
  exact all w s t hs ht h
end
end Le
namespace Le
/-! data of lists of ints -/
theorem toDs_ints {g : Nat → Option PyData} : ∀ xs : List Int, toDs g (xs.map U.int) = some (xs.map PyData.int)
  | [] => rfl
  | x :: xs => by rw [List.map_cons]; simp only [toDs, toD, toDs_ints xs, List.map_cons]
theorem eqv_ints : ∀ xs ys : List Int, PyData.eqvAll (xs.map PyData.int) (ys.map PyData.int) = decide (xs = ys)
  | [], [] => rfl
  | [], _ :: _ => rfl
  | _ :: _, [] => rfl
  | x :: xs, y :: ys => by
    rw [List.map_cons, List.map_cons]
    simp only [PyData.eqvAll, PyData.eqv, eqv_ints xs ys]
    by_cases h : x = y
    · subst h; by_cases h2 : xs = ys <;> simp [h2]
    · simp [h]
theorem dep_ints : ∀ xs : List Int, PyData.depthAll (xs.map PyData.int) = 0
  | [] => rfl
  | x :: xs => by rw [List.map_cons]; simp only [PyData.depthAll, PyData.depth, dep_ints xs]; rfl
theorem dat_row {μ : Mem} {k : Nat} {xs : List Int} (h : μ[k]? = some (.lst (xs.map U.int))) : ∀ n, refD μ (n + 1) k = some (.list (xs.map PyData.int)) := fun n => by
  unfold refD
  simp only [h, toDs_ints, Option.map_some]
theorem dat_rows {μ : Mem} {n : Nat} : ∀ {ks : List Nat} {ms : List (List Int)}, ks.length = ms.length → (∀ (i k : Nat) (m : List Int), ks[i]? = some k → ms[i]? = some m → μ[k]? = some (.lst (m.map U.int))) → toDs (refD μ (n + 1)) (ks.map U.ref) = some (ms.map fun m => PyData.list (m.map PyData.int))
  | [], ms, hl, h => by cases ms with
    | nil => rfl
    | cons _ _ => simp at hl
  | k :: ks, ms, hl, h => by
    cases ms with
    | nil => simp at hl
    | cons m ms =>
      rw [List.map_cons, List.map_cons]
      have ih := dat_rows (n := n) (ks := ks) (ms := ms) (by simpa using hl) fun i k m h1 h2 => h (i + 1) k m (by simpa using h1) (by simpa using h2)
      simp only [toDs, toD, dat_row (h 0 k m rfl rfl) n, ih]
theorem dep_rows : ∀ ms : List (List Int), PyData.depthAll (ms.map fun m => PyData.list (m.map PyData.int)) ≤ 1
  | [] => Nat.zero_le _
  | m :: ms => by
    rw [List.map_cons]
    simp only [PyData.depthAll, PyData.depth, dep_ints m]
    have := dep_rows ms
    omega
theorem w_indexR {μ : Mem} {Q : U → Mem → Prop} {E : Str → Mem → Prop} {r k s : Nat} {ks : List Nat} {ms : List (List Int)} (hr : μ[r]? = some (.lst (ks.map U.ref))) (hl : ks.length = ms.length) (h : ∀ (i k : Nat) (m : List Int), ks[i]? = some k → ms[i]? = some m → μ[k]? = some (.lst (m.map U.int))) (hk : ks[s]? = some k) {m : List Int} (hm : ms[s]? = some m)
    (q : Q (.int ((ms.findIdx fun z => decide (z = m) : Nat) : Int)) μ) : wpE (gIndexD (.ref r) [.ref k] μ) Q E := by
  have e1 : datU μ (.ref r) = some (.list (ms.map fun m => PyData.list (m.map PyData.int))) := by
    show refD μ 6 r = _
    unfold refD
    simp only [hr, dat_rows hl h, Option.map_some]
  have e2 : datU μ (.ref k) = some (.list (m.map PyData.int)) := dat_row (h s k m hk hm) 5
  have e3 : (ms.map fun m => PyData.list (m.map PyData.int)).findIdx? (fun z => PyData.eqv z (.list (m.map PyData.int))) = some (ms.findIdx fun z => decide (z = m)) := by
    have hex : ∃ x ∈ ms, decide (x = m) = true := ⟨m, List.mem_of_getElem? hm, by simp⟩
    rw [List.findIdx?_map]
    have : ((fun z => PyData.eqv z (.list (m.map PyData.int))) ∘ fun m => PyData.list (m.map PyData.int)) = fun z => decide (z = m) := by
      funext z
      simp only [Function.comp, PyData.eqv]
      exact eqv_ints z m
    rw [this, List.findIdx?_eq_some_of_exists hex]
  unfold gIndexD
  simp only [e1, e2]
  rw [if_pos ⟨by have := dep_rows ms; simp only [PyData.depth]; omega, by simp only [PyData.depth, dep_ints]; omega⟩]
  simp only [e3]
  exact q
def rdRow (C : Calls) : FS := (sSeq (sAsg (.one 6) (fLst (aCons (fOp ixU (fVar 2) (fVar 5)) aNil)))
    (sSeq (sFor (iSeq (fOp ixU (fOp ixU (fVar 0) (fC (.int 1))) (fVar 5))) (.one 7) (sExpr (fMtL gAppend (fVar 6) (aCons (fIf (tst (fOp ixU (fVar 1) (fVar 5))) (fOp ixU (fLst (aCons (fC (.int 0)) (aCons (fC (.int 0)) (aCons (fOp ixU (fVar 2) (fVar 7)) aNil)))) (fOp uAdd (fC (.int 1)) (fCall bInt (aCons (fOp uGeX (fVar 7) (fC (.int 0))) aNil)))) (fC (.int 0))) aNil))))
    (sExpr (fMtL gAppend (fVar 4) (aCons (fVar 6) aNil)))))
def rdBody (C : Calls) : FS := (sSeq (sAsg (.one 4) (fLst aNil))
    (sSeq (sFor (iRg1 (fCall bLen (aCons (fVar 1) aNil))) (.one 5) (rdRow C))
    (sAsg (.one 2) (fLc (iRg1 (fCall bLen (aCons (fVar 1) aNil))) [5] (.one 5) tAll (fOp uMul (fCall bInt (aCons (fOp ixU (fVar 1) (fVar 5)) aNil)) (fOp uAdd (fC (.int 1)) (fMtL gIndexD (fVar 4) (aCons (fOp ixU (fVar 4) (fVar 5)) aNil))))))))
theorem gi_at {K : List Int} {i : Nat} (h : i < K.length) : (K.map U.int)[i]? = some (.int (gi K i)) := by
  unfold gi
  rw [List.getElem?_map, List.getElem?_eq_getElem h, List.getD_eq_getElem?_getD, List.getElem?_eq_getElem h]
  rfl
abbrev Sl (M : Mc) (ru rk : Nat) (x3 x4 x5 x6 x7 x8 x9 x10 x11 x12 : Option U) : Slots := [some (mU M), some (.ref ru), some (.ref rk), x3, x4, x5, x6, x7, x8, x9, x10, x11, x12]
/-- the marks of one state -/
theorem rdRow_s {C : Calls} {M : Mc} {V : List Bool} {K : List Int} (U0 : Us M V) (hL : M.L ≤ 200) (hn : M.mv.length ≤ 400) (hK : K.length = M.mv.length) {ru rk rm s : Nat} {ks : List Nat} {x3 x6 x7 x8 x9 x10 x11 x12 : Option U} {μ : Mem} {D : Dn} (hs : s < M.mv.length) (cu : μ[ru]? = some (.lst (V.map U.bl))) (ck : μ[rk]? = some (.lst (K.map U.int))) (cm : μ[rm]? = some (.lst (ks.map U.ref))) (hks : ks.length ≤ 1000)
    (q : ∀ x6 x7 μ', (∃ μ2, Fr μ μ2 ∧ μ' = μ2.set rm (.lst ((ks ++ [μ.length]).map U.ref)) ∧ μ2[μ.length]? = some (.lst ((mkR M V K s).map U.int))) → D.nx (Sl M ru rk x3 (some (.ref rm)) (some (.int (s : Nat))) x6 x7 x8 x9 x10 x11 x12) μ') :
    Dg.wpS (rdRow C (Sl M ru rk x3 (some (.ref rm)) (some (.int (s : Nat))) x6 x7 x8 x9 x10 x11 x12) μ) D := by
  obtain ⟨hrl, hrt⟩ := U0.ok.row _ (List.getElem_mem hs)
  have lm := get_lt cm
  unfold rdRow
  walk_at "gos"
  rw [w_ixL ck, Dg.atI_nat, gi_at (by omega)]
  refine ⟨_, rfl, ?_⟩
  try walk_at "gos"
  refine w_iseqS ?_
  walk_at "gos"
  rw [w_ixM1]
  walk_at "gos"
  rw [Dg.atI_nat, List.getElem?_map, List.getElem?_eq_getElem hs]
  refine ⟨_, rfl, M.mv[s].map U.int, rfl, fun j hj => ?_⟩
  have c6 : (μ ++ [Cell.lst [U.int (gi K s)]])[μ.length]? = some (.lst [U.int (gi K s)]) := get_snoc
  have f6 : Fr μ (μ ++ [Cell.lst [U.int (gi K s)]]) := Fr.refl.snoc
  generalize μ ++ [Cell.lst [U.int (gi K s)]] = μ1 at c6 f6
  refine for_it (M.mv[s].map U.int) (fun k s' μ' => ∃ x7 : Option U, s' = Sl M ru rk x3 (some (.ref rm)) (some (.int (s : Nat))) (some (.ref μ.length)) x7 x8 x9 x10 x11 x12 ∧ Fr μ μ' ∧ μ'[μ.length]? = some (.lst ((gi K s :: (M.mv[s].take k).map fun t => if gb V s = true then kap K t else 0).map U.int))) (by simp; omega) ⟨x7, rfl, f6, by simpa using c6⟩ (fun k s' μ' _ => hj μ' rfl k) ?_ ?_
  · rintro k s' μ2 hk ⟨x7, rfl, f2, c2⟩
    have hk' : k < M.mv[s].length := by simpa using hk
    rw [List.getElem_map]
    refine ⟨_, rfl, ?_⟩
    have ht := hrt _ (List.getElem_mem hk')
    rw [show M.mv[s].take (k + 1) = M.mv[s].take k ++ [M.mv[s][k]] by rw [List.take_append_getElem]]
    generalize M.mv[s][k] = t at ht
    walk_at "gos"
    refine ⟨_, lstU_L c2, ?_⟩
    rw [w_ixL (f2.at_ _ _ cu), Dg.atI_nat, gb_at (by rw [U0.len]; exact hs)]
    refine ⟨_, rfl, _, tru_b, ?_⟩
    have app : ∀ {μ3 : Mem} {v : Int}, Fr μ μ3 → μ3[μ.length]? = some (.lst ((gi K s :: (M.mv[s].take k).map fun t => if gb V s = true then kap K t else 0).map U.int)) → v = (if gb V s = true then kap K t else 0) → wpE (gAppend (.ref μ.length) [.int v] μ3) (fun _ μ' => ∃ x7 : Option U, (Sl M ru rk x3 (some (.ref rm)) (some (.int (s : Nat))) (some (.ref μ.length)) (some (.int t)) x8 x9 x10 x11 x12) = Sl M ru rk x3 (some (.ref rm)) (some (.int (s : Nat))) (some (.ref μ.length)) x7 x8 x9 x10 x11 x12 ∧ Fr μ μ' ∧
        μ'[μ.length]? = some (.lst ((gi K s :: (M.mv[s].take k ++ [t]).map fun t => if gb V s = true then kap K t else 0).map U.int))) (fun c μ' => D.ex c (Sl M ru rk x3 (some (.ref rm)) (some (.int (s : Nat))) (some (.ref μ.length)) (some (.int t)) x8 x9 x10 x11 x12) μ') := by
      intro μ3 v f3 c3 hv
      rw [w_append c3 (by simp only [List.length_map, List.length_cons, List.length_take, lim]; omega)]
      refine ⟨_, rfl, f3.put (Nat.le_refl _), ?_⟩
      rw [get_set c3, hv]
      simp
    cases hb : gb V s with
    | false =>
      try walk_at "gos"
      have := app f2 c2 (v := 0) (by rw [hb]; rfl)
      rw [hb] at this
      exact this
    | true =>
      try walk_at "gos"
      have hlast : ∃ a : Int, atI (K.map U.int) t = some (.int a) ∧ (0 ≤ t → a = gi K t.toNat) := by
        by_cases h0 : 0 ≤ t
        · obtain ⟨tn, rfl⟩ := Int.eq_ofNat_of_zero_le h0
          rw [Dg.atI_nat, gi_at (by omega)]
          exact ⟨_, rfl, fun _ => by rw [Int.toNat_natCast]⟩
        · have ht1 : t = -1 := by omega
          subst ht1
          have hl : 0 < (K.map U.int).length := by simp; omega
          have : atI (K.map U.int) (-1) = (K.map U.int)[(K.map U.int).length - 1]? := by
            unfold L2.atI L2.ixN
            rw [if_neg (by omega), if_pos (by omega)]
            show (K.map U.int)[((-1 : Int) + ((K.map U.int).length : Nat)).toNat]? = _
            rw [show ((-1 : Int) + ((K.map U.int).length : Nat)).toNat = (K.map U.int).length - 1 by omega]
          rw [this, List.getElem?_map, List.getElem?_eq_getElem (by simp; omega)]
          exact ⟨_, rfl, fun h => absurd h h0⟩
      obtain ⟨a, ha, ha2⟩ := hlast
      rw [w_ixL (f2.at_ _ _ ck)]
      refine ⟨_, ha, ?_⟩
      try walk_at "gos"
      rw [w_ixL get_snoc]
      have hkp : kap K t = if 0 ≤ t then a else 0 := by
        unfold kap
        by_cases h0 : 0 ≤ t
        · rw [if_pos h0, if_pos h0, ha2 h0]
        · rw [if_neg h0, if_neg h0]
      have c2' := get_snoc_lt (c := Cell.lst [U.int 0, U.int 0, U.int a]) c2
      rw [hb] at app c2'
      by_cases h0 : 0 ≤ t
      · simp only [h0, decide_true, if_true]
        refine ⟨.int a, rfl, ?_⟩
        have := app (f2.snoc) c2' (v := a) (by rw [hkp, if_pos h0]; rfl)
        exact this
      · simp only [h0, decide_false]
        refine ⟨.int 0, rfl, ?_⟩
        have := app (f2.snoc) c2' (v := 0) (by rw [hkp, if_neg h0]; rfl)
        exact this
  · rintro s' μ2 ⟨x7, rfl, f2, c2⟩
    rw [List.length_map, List.take_length] at c2
    walk_at "gos"
    have cm2 := f2.at_ _ _ cm
    refine ⟨_, lstU_L cm2, ?_⟩
    rw [w_append cm2 (by rw [List.length_map]; simp only [lim]; omega)]
    refine q _ x7 _ ⟨μ2, f2, by simp, ?_⟩
    unfold mkR
    rw [row_at hs]
    exact c2
theorem rdBody_s {C : Calls} {M : Mc} {V : List Bool} {K : List Int} (U0 : Us M V) (hL : M.L ≤ 200) (hn : M.mv.length ≤ 400) (hK : K.length = M.mv.length) {ru rk : Nat} {x3 x4 x5 x6 x7 x8 x9 x10 x11 x12 : Option U} {μ : Mem} {D : Dn} (cu : μ[ru]? = some (.lst (V.map U.bl))) (ck : μ[rk]? = some (.lst (K.map U.int)))
    (q : ∀ rk' x4 x5 x6 x7 μ', Fr μ μ' → μ'[rk']? = some (.lst ((rnd M V K).map U.int)) → D.nx (Sl M ru rk' x3 x4 x5 x6 x7 x8 x9 x10 x11 x12) μ') :
    Dg.wpS (rdBody C (Sl M ru rk x3 x4 x5 x6 x7 x8 x9 x10 x11 x12) μ) D := by
  have row := fun s ks rm x6 x7 (μ1 : Mem) (D : Dn) hs cu ck cm hks q => @rdRow_s C M V K U0 hL hn hK ru rk rm s ks x3 x6 x7 x8 x9 x10 x11 x12 μ1 D hs cu ck cm hks q
  unfold rdBody
  generalize rdRow C = T at row ⊢
  have hVl := U0.len
  walk_at "gos"
  have cm0 : (μ ++ [Cell.lst []])[μ.length]? = some (.lst (([] : List Nat).map U.ref)) := get_snoc
  have f0 : Fr μ (μ ++ [Cell.lst []]) := Fr.refl.snoc
  generalize μ ++ [Cell.lst []] = μ1 at cm0 f0
  rw [w_lenL (f0.at_ _ _ cu), List.length_map, hVl]
  refine ⟨_, rfl, by simp [okR]; omega, ?_⟩
  refine for_rng M.mv.length (fun i s' μ' => ∃ (x5 x6 x7 : Option U) (ks : List Nat), s' = Sl M ru rk x3 (some (.ref μ.length)) x5 x6 x7 x8 x9 x10 x11 x12 ∧ Fr μ μ' ∧ μ'[μ.length]? = some (.lst (ks.map U.ref)) ∧ ks.length = i ∧ ∀ (j k : Nat), ks[j]? = some k → k ≠ μ.length ∧ μ'[k]? = some (.lst ((mkR M V K j).map U.int))) (by simp) (by omega) ⟨_, _, _, [], rfl, f0, cm0, rfl, fun j k h => by simp at h⟩ ?_ ?_
  · rintro i s' μ2 hi ⟨x5, x6, x7, ks, rfl, f2, cm2, hkl, hks⟩
    refine ⟨_, rfl, ?_⟩
    refine row i ks μ.length x6 x7 μ2 _ hi (f2.at_ _ _ cu) (f2.at_ _ _ ck) cm2 (by omega) fun x6' x7' μ3 ⟨μ4, f4, e3, c4⟩ => ?_
    have lm := get_lt cm2
    have cm4 := f4.at_ _ _ cm2
    subst e3
    refine ⟨_, x6', x7', ks ++ [μ2.length], rfl, (f2.trans f4).put (Nat.le_refl _), get_set cm4, by simp [hkl], fun j k h => ?_⟩
    by_cases hj : j < ks.length
    · rw [List.getElem?_append_left hj] at h
      obtain ⟨a, b⟩ := hks j k h
      exact ⟨a, get_set_ne (f4.at_ _ _ b) (Ne.symm a)⟩
    · have hjl := (List.getElem?_eq_some_iff.mp h).1
      have : j = ks.length := by simp at hjl; omega
      subst this
      rw [List.getElem?_append_right (Nat.le_refl _), Nat.sub_self] at h
      cases h
      exact ⟨by omega, by rw [hkl]; exact get_set_ne c4 (by omega)⟩
  · rintro s' μ2 ⟨x5, x6, x7, ks, rfl, f2, cm2, hkl, hks⟩
    try walk_at "gos"
    rw [w_lenL (f2.at_ _ _ cu), List.length_map, hVl]
    refine ⟨_, rfl, by simp [okR]; omega, ?_⟩
    rw [Int.toNat_natCast]
    refine lc_fm (List.range M.mv.length) (fun i => U.int ((i : Nat) : Int)) (fun _ => true) (fun s => .int ((if gb V s = true then 1 else 0) * (1 + (ixM M V K s : Int)))) (by simp; omega) (fun i acc => ?_) (fun s hs acc => ?_) ?_
    · rw [item_rng]
      by_cases h : i < M.mv.length
      · rw [if_pos h, List.getElem?_map, List.getElem?_range h]; simp
      · rw [if_neg h, List.getElem?_eq_none (by simp; omega)]
    · have hs' := List.mem_range.mp hs
      refine ⟨_, rfl, ?_⟩
      walk_at "gos"
      intro _
      rw [w_ixL (get_snoc_lt (f2.at_ _ _ cu)), Dg.atI_nat, gb_at (by omega)]
      refine ⟨_, rfl, ?_⟩
      walk_at "gos"
      refine ⟨_, lstU_L (get_snoc_lt cm2), ?_⟩
      have hk : ks[s]? = some ks[s] := List.getElem?_eq_getElem (by omega)
      rw [w_ixL (get_snoc_lt cm2), Dg.atI_nat, List.getElem?_map, hk]
      refine ⟨_, rfl, ?_⟩
      refine w_indexR (ms := (List.range M.mv.length).map (mkR M V K)) (m := mkR M V K s) (get_snoc_lt cm2) (by simp [hkl]) (fun j k m h1 h2 => ?_) hk (by rw [List.getElem?_map, List.getElem?_range hs']; rfl) ?_
      · have hj := (List.getElem?_eq_some_iff.mp h1).1
        rw [List.getElem?_map, List.getElem?_range (by omega)] at h2
        cases h2
        exact get_snoc_lt (hks j k h1).2
      · have e : ((List.range M.mv.length).map (mkR M V K)).findIdx (fun z => decide (z = mkR M V K s)) = ixM M V K s := by
          unfold ixM
          rw [List.findIdx_map]
          rfl
        rw [e]
        have hix := (ixM_sp (V := V) (K := K) hs').1
        walk_at "gos"
        cases hb : gb V s with
        | false => rfl
        | true => rfl
    · rw [List.filter_eq_self.mpr (fun _ _ => rfl)]
      try walk_at "gos"
      refine q _ _ _ _ _ _ f2.snoc ?_
      rw [get_snoc]
      unfold rnd
      rw [List.map_map]
      rfl
end Le
namespace Le
theorem any_ints {k : Int} : ∀ xs : List Int, (xs.map PyData.int).any (fun y => PyData.eqv y (.int k)) = decide (k ∈ xs)
  | [] => rfl
  | x :: xs => by
    rw [List.map_cons, List.any_cons, any_ints xs]
    simp only [PyData.eqv]
    by_cases h : x = k
    · subst h; simp
    · have h' : ¬ k = x := fun e => h e.symm
      simp [h, h']
theorem in_ints {μ : Mem} {r : Nat} {xs : List Int} {k : Int} (h : μ[r]? = some (.lst (xs.map U.int))) : inU (.int k) (.ref r) μ = some (decide (k ∈ xs)) := by
  have e1 : dctU μ (.ref r) = none := by unfold dctU; simp only [h]
  have e2 : seqU μ (.ref r) = some (xs.map U.int) := seq_Ls h
  unfold inU
  simp only [e1, e2]
  have e3 : datU μ (.int k) = some (.int k) := rfl
  simp only [e3, toDs_ints]
  rw [if_pos (by simp [PyData.depth]), any_ints]
theorem w_ninI {μ : Mem} {Q : U → Mem → Prop} {E : Str → Mem → Prop} {r : Nat} {xs : List Int} {k : Int} (h : μ[r]? = some (.lst (xs.map U.int))) : wpE (uNin (.int k) (.ref r) μ) Q E = Q (.bl (!decide (k ∈ xs))) μ := by
  unfold uNin; rw [in_ints h]; rfl
theorem flUs_ints : ∀ xs : List Int, flUs (xs.map U.int) = some (xs.map V.int)
  | [] => rfl
  | x :: xs => by rw [List.map_cons]; simp only [flUs, flU, flUs_ints xs, List.map_cons]
theorem idxV_ints {k : Int} : ∀ xs : List Int, k ∈ xs → idxV (.int k) (xs.map V.int) = some (xs.idxOf k)
  | [], h => by simp at h
  | x :: xs, h => by
    rw [List.map_cons]
    simp only [idxV]
    rw [List.idxOf_cons]
    by_cases e : x = k
    · subst e
      simp [eqV]
    · have e2 : eqV (V.int x) (V.int k) = false := by simp [eqV, e]
      rw [e2]
      have hm : k ∈ xs := by
        rcases List.mem_cons.mp h with h | h
        · exact absurd h.symm e
        · exact h
      rw [idxV_ints xs hm, show (x == k) = false by simpa using e]
      rfl
theorem w_indexI {μ : Mem} {Q : U → Mem → Prop} {E : Str → Mem → Prop} {r : Nat} {xs : List Int} {k : Int} (h : μ[r]? = some (.lst (xs.map U.int))) (hk : k ∈ xs) : wpE (gIndex (.ref r) [.int k] μ) Q E = Q (.int (xs.idxOf k : Nat)) μ := by
  unfold gIndex
  simp only [lstU_L h, flUs_ints, flU, idxV_ints xs hk]
  rfl
theorem mapd_ext {F g es : List Int} (h : ∀ e ∈ es, e = -1 ∨ e ∈ F) : mapd (F ++ g) es = mapd F es := by
  unfold mapd
  refine List.map_congr_left fun e he => ?_
  by_cases h1 : e = -1
  · rw [if_pos h1, if_pos h1]
  · rw [if_neg h1, if_neg h1, List.idxOf_append, if_pos ((h e he).resolve_left h1)]
def ent (K : List Int) (t : Int) : Int := if kap K t = 0 then -1 else kap K t
def erow (M : Mc) (K : List Int) (s : Nat) : List Int := (M.mv.getD s []).map (ent K)
structure Par (n : Nat) (K : List Int) (order : List Nat) (seen : List Int) : Prop where
  len : order.length = seen.length
  at_ : ∀ (i s : Nat) (c : Int), order[i]? = some s → seen[i]? = some c → s < n ∧ gi K s = c
def bfT (C : Calls) : FS := (sSeq (sIf (tAn (tstB (fOp uGt (fVar 12) (fC (.int 0)))) (tstB (fOp uNin (fVar 12) (fVar 9)))) (sSeq (sExpr (fMtL gAppend (fVar 9) (aCons (fVar 12) aNil)))
    (sExpr (fMtL gAppend (fVar 8) (aCons (fVar 7) aNil)))) sNext)
    (sExpr (fMtL gAppend (fVar 6) (aCons (fIf (tstB (fOp uEq (fVar 12) (fC (.int 0)))) (fNeg (fC (.int 1))) (fMtL gIndex (fVar 9) (aCons (fVar 12) aNil))) aNil))))
def bfRow (C : Calls) : FS := (sFor (iSeq (fOp ixU (fOp ixU (fVar 0) (fC (.int 1))) (fOp ixU (fVar 8) (fVar 11)))) (.one 7) (sSeq (sAsg (.one 12) (fC (.int 0)))
    (sSeq (sIf (tstB (fOp uGeX (fVar 7) (fC (.int 0)))) (sAsg (.one 12) (fOp ixU (fVar 2) (fVar 7))) sNext)
    (bfT C))))
/-- memories that differ in two cells -/
structure Two (b r8 r9 : Nat) (μ μ' : Mem) : Prop where
  le : μ.length ≤ μ'.length
  at_ : ∀ (i : Nat) (c : Cell), i < b → i ≠ r8 → i ≠ r9 → μ[i]? = some c → μ'[i]? = some c
theorem Two.put {b r8 r9 i : Nat} {c : Cell} {μ μ' : Mem} (t : Two b r8 r9 μ μ') (h : b ≤ i ∨ i = r8 ∨ i = r9) : Two b r8 r9 μ (μ'.set i c) := ⟨by simpa using t.le, fun k d h1 h2 h3 e => get_set_ne (t.at_ k d h1 h2 h3 e) (by omega)⟩
theorem bfRow_s {C : Calls} {M : Mc} {V : List Bool} {K : List Int} (ok : M.ok) (hL : M.L ≤ 200) (hn : M.mv.length ≤ 400) (hK : K.length = M.mv.length) (hpos : ∀ s, s < M.mv.length → 0 ≤ gi K s) {ru rk r6 r8 r9 r10 at' s : Nat} {order : List Nat} {seen : List Int} {x3 x4 x5 x7 x12 : Option U} {μ : Mem} {D : Dn} (hs : s < M.mv.length) (ck : μ[rk]? = some (.lst (K.map U.int)))
    (c6 : μ[r6]? = some (.lst [])) (c8 : μ[r8]? = some (.lst ((iN order).map U.int))) (c9 : μ[r9]? = some (.lst (seen.map U.int))) (hne : r8 ≠ r9 ∧ r6 ≠ r8 ∧ r6 ≠ r9 ∧ rk ≠ r8 ∧ rk ≠ r9 ∧ rk < r6) (ho : order[at']? = some s) (P : Par M.mv.length K order seen) (nd : seen.Nodup) (hsn : ∀ c ∈ seen, c ≠ -1)
    (q : ∀ x7 x12 order' μ', Two r6 r8 r9 μ μ' → μ'[r6]? = some (.lst ((mapd (addR seen (erow M K s)) (erow M K s)).map U.int)) → μ'[r8]? = some (.lst ((iN order').map U.int)) → μ'[r9]? = some (.lst ((addR seen (erow M K s)).map U.int)) → Par M.mv.length K order' (addR seen (erow M K s)) → (∃ g, order' = order ++ g) → (∀ c ∈ addR seen (erow M K s), c ≠ -1) →
      D.nx (Sl M ru rk x3 x4 x5 (some (.ref r6)) x7 (some (.ref r8)) (some (.ref r9)) (some (.ref r10)) (some (.int (at' : Nat))) x12) μ') :
    Dg.wpS (bfRow C (Sl M ru rk x3 x4 x5 (some (.ref r6)) x7 (some (.ref r8)) (some (.ref r9)) (some (.ref r10)) (some (.int (at' : Nat))) x12) μ) D := by
  obtain ⟨n1, n2, n3, n4, n5, n6⟩ := hne
  obtain ⟨hrl, hrt⟩ := ok.row _ (List.getElem_mem hs)
  have parlen : ∀ {o : List Nat} {f : List Int}, Par M.mv.length K o f → f.Nodup → f.length ≤ M.mv.length := by
    intro o f P nd
    have ndo : o.Nodup := by
      rw [List.nodup_iff_pairwise_ne, List.pairwise_iff_getElem]
      intro i j hi hj hij e
      have hl := P.len
      have a := (P.at_ i _ _ (List.getElem?_eq_getElem hi) (List.getElem?_eq_getElem (by omega))).2
      have b := (P.at_ j _ _ (List.getElem?_eq_getElem hj) (List.getElem?_eq_getElem (by omega))).2
      rw [e, b] at a
      have := Dg.nodup_inj nd (i := j) (j := i) (by omega) (by omega) a
      omega
    have := ndo.length_le_of_subset (l₂ := List.range M.mv.length) fun x hx => by
      obtain ⟨i, hi⟩ := List.getElem?_of_mem hx
      have hil := (List.getElem?_eq_some_iff.mp hi).1
      have hl := P.len
      exact List.mem_range.mpr (P.at_ i x _ hi (List.getElem?_eq_getElem (by omega))).1
    have hl := P.len
    simp at this; omega
  unfold bfRow
  rw [w_for]
  refine w_iseqS ?_
  walk_at "gos"
  rw [w_ixM1]
  rw [w_ixL c8, Dg.atI_nat, iN_map, List.getElem?_map, ho]
  refine ⟨_, rfl, ?_⟩
  rw [w_ixT]
  rw [Dg.atI_nat, List.getElem?_map, List.getElem?_eq_getElem hs]
  refine ⟨_, rfl, M.mv[s].map U.int, rfl, fun j hj => ?_⟩
  have erw : erow M K s = M.mv[s].map (ent K) := by unfold erow; rw [row_at hs]
  rw [erw] at q
  refine for_it (M.mv[s].map U.int) (fun k s' μ' => ∃ (x7 x12 : Option U) (order' : List Nat), s' = Sl M ru rk x3 x4 x5 (some (.ref r6)) x7 (some (.ref r8)) (some (.ref r9)) (some (.ref r10)) (some (.int (at' : Nat))) x12 ∧ Two r6 r8 r9 μ μ' ∧
      μ'[r6]? = some (.lst ((mapd (addR seen ((M.mv[s].take k).map (ent K))) ((M.mv[s].take k).map (ent K))).map U.int)) ∧ μ'[r8]? = some (.lst ((iN order').map U.int)) ∧ μ'[r9]? = some (.lst ((addR seen ((M.mv[s].take k).map (ent K))).map U.int)) ∧ Par M.mv.length K order' (addR seen ((M.mv[s].take k).map (ent K))) ∧ (∃ g, order' = order ++ g) ∧ (∀ c ∈ addR seen ((M.mv[s].take k).map (ent K)), c ≠ -1)) (by simp; omega)
    ⟨x7, x12, order, rfl, ⟨Nat.le_refl _, fun _ _ _ _ _ h => h⟩, by simpa [mapd] using c6, c8, by simpa [addR] using c9, by simpa [addR] using P, ⟨[], by simp⟩, by simpa [addR] using hsn⟩ (fun k s' μ' _ => hj μ' rfl k) ?_ ?_
  · rintro k s' μ2 hk ⟨x7, x12, order', rfl, T, d6, d8, d9, P2, ⟨gg, hgg⟩, hn1⟩
    have hk' : k < M.mv[s].length := by simpa using hk
    rw [List.getElem_map]
    refine ⟨_, rfl, ?_⟩
    have ht := hrt _ (List.getElem_mem hk')
    rw [show M.mv[s].take (k + 1) = M.mv[s].take k ++ [M.mv[s][k]] by rw [List.take_append_getElem], List.map_append, List.map_singleton, addR_snoc]
    have tl : (M.mv[s].take k).length ≤ 200 := by rw [List.length_take]; omega
    generalize hes : (M.mv[s].take k).map (ent K) = es at d6 d9 P2 hn1 ⊢
    have esl : es.length ≤ 200 := by rw [← hes, List.length_map]; exact tl
    have nd2 : (addR seen es).Nodup := addR_nodup _ nd
    have memes : ∀ e ∈ es, e = -1 ∨ e ∈ addR seen es := fun e he => by
      by_cases h : e = -1
      · exact .inl h
      · exact .inr ((addR_mem es).mpr (.inr ⟨he, h⟩))
    generalize addR seen es = F at d6 d9 P2 nd2 hn1 memes ⊢
    have lenF := parlen P2 nd2
    generalize M.mv[s][k] = t at ht
    have ck2 := T.at_ rk _ n6 n4 n5 ck
    -- the kind of the target
    have step : Dg.wpS (bfT C (Sl M ru rk x3 x4 x5 (some (.ref r6)) (some (.int t)) (some (.ref r8)) (some (.ref r9)) (some (.ref r10)) (some (.int (at' : Nat))) (some (.int (kap K t)))) μ2)
        ⟨fun s' μ' => ∃ (x7 x12 : Option U) (order' : List Nat), s' = Sl M ru rk x3 x4 x5 (some (.ref r6)) x7 (some (.ref r8)) (some (.ref r9)) (some (.ref r10)) (some (.int (at' : Nat))) x12 ∧ Two r6 r8 r9 μ μ' ∧
          μ'[r6]? = some (.lst ((mapd (if ent K t ≠ -1 ∧ ent K t ∉ F then F ++ [ent K t] else F) (es ++ [ent K t])).map U.int)) ∧ μ'[r8]? = some (.lst ((iN order').map U.int)) ∧ μ'[r9]? = some (.lst ((if ent K t ≠ -1 ∧ ent K t ∉ F then F ++ [ent K t] else F).map U.int)) ∧ Par M.mv.length K order' (if ent K t ≠ -1 ∧ ent K t ∉ F then F ++ [ent K t] else F) ∧ (∃ g, order' = order ++ g) ∧ (∀ c ∈ (if ent K t ≠ -1 ∧ ent K t ∉ F then F ++ [ent K t] else F), c ≠ -1), D.rt, D.nx,
          fun s' μ' => ∃ (x7 x12 : Option U) (order' : List Nat), s' = Sl M ru rk x3 x4 x5 (some (.ref r6)) x7 (some (.ref r8)) (some (.ref r9)) (some (.ref r10)) (some (.int (at' : Nat))) x12 ∧ Two r6 r8 r9 μ μ' ∧
          μ'[r6]? = some (.lst ((mapd (if ent K t ≠ -1 ∧ ent K t ∉ F then F ++ [ent K t] else F) (es ++ [ent K t])).map U.int)) ∧ μ'[r8]? = some (.lst ((iN order').map U.int)) ∧ μ'[r9]? = some (.lst ((if ent K t ≠ -1 ∧ ent K t ∉ F then F ++ [ent K t] else F).map U.int)) ∧ Par M.mv.length K order' (if ent K t ≠ -1 ∧ ent K t ∉ F then F ++ [ent K t] else F) ∧ (∃ g, order' = order ++ g) ∧ (∀ c ∈ (if ent K t ≠ -1 ∧ ent K t ∉ F then F ++ [ent K t] else F), c ≠ -1), D.ex⟩ := by
      unfold bfT
      have kpos : 0 ≤ kap K t := by
        unfold kap
        split
        · exact hpos _ (by omega)
        · exact Int.le_refl _
      have mapapp : ∀ {G : List Int} {e : Int}, mapd G (es ++ [e]) = mapd G es ++ [if e = -1 then -1 else (G.idxOf e : Int)] := by
        intro G e; simp [mapd]
      have ml : (mapd F es).length ≤ 200 := by unfold mapd; rw [List.length_map]; exact esl
      walk_at "gos"
      by_cases h0 : kap K t = 0
      · have e1 : ent K t = -1 := by unfold ent; rw [if_pos h0]
        rw [e1, h0]
        walk_at "gos"
        refine ⟨_, lstU_L d6, ?_⟩
        rw [w_append d6 (by rw [List.length_map]; simp only [lim]; omega)]
        refine ⟨_, _, order', rfl, T.put (.inl (Nat.le_refl _)), ?_, get_set_ne d8 n2, get_set_ne d9 n3, P2, ⟨gg, hgg⟩, hn1⟩
        rw [get_set d6, mapapp, if_pos rfl, List.map_append]
        rfl
      · have e1 : ent K t = kap K t := by unfold ent; rw [if_neg h0]
        have hp : 0 < kap K t := by omega
        rw [e1]
        have t0 : 0 ≤ t := by
          by_cases h : 0 ≤ t
          · exact h
          · unfold kap at h0; rw [if_neg h] at h0; exact absurd rfl h0
        have hkt : gi K t.toNat = kap K t := by unfold kap; rw [if_pos t0]
        generalize kap K t = c at h0 hp hkt ⊢
        have hc1 : c ≠ -1 := by omega
        simp (config := {decide := true}) only [hp, w_run, w_geXI, w_geXP, w_lz, w_op, w_isi, Dg.wipeU, w_powI, w_intB, w_sl, w_oNone, w_oSome, w_slT, w_slF, w_ixF, w_lenF, w_abs, w_max2, w_min2, w_fdivI, w_neg, w_andE, w_orE, w_notE, w_chain, w_c, w_var, w_call, w_def, w_anil, w_acons, w_tup, w_lst, w_int, w_intB, w_lenT, w_addI, w_subI, w_modI, w_mulI, w_ltI, w_leI, w_gtI, w_geI, w_eq, w_ne, w_ixT, w_if, w_nt, w_an, w_or, w_all, w_tstB, w_tst, w_app, w_lc, w_for, w_iseqT, w_rg1, w_rev1, w_d0, Dg.eq_str, Dg.eq_int, s_seq, s_next, s_brk, s_cnt, s_expr, s_ret, s_retN, s_if, w_getE, w_items, w_keys, w_fmt, w_js0, w_js, s_asg1, s_store, s_tryAs, s_try, w_isX, s_raise, List.map_cons, List.map_nil, List.cons_append, List.nil_append, List.length_cons, List.length_nil, List.replicate_succ, List.replicate_zero, Nat.add_sub_cancel, Nat.sub_self, Nat.sub_zero, Nat.reduceAdd, Nat.reduceSub, Nat.zero_add, List.set_cons_succ, List.set_cons_zero, List.getElem?_cons_zero, List.getElem?_cons_succ, Option.some.injEq, exists_eq_left', exists_eq_left, exists_eq_right', U.bl.injEq, U.int.injEq, U.ref.injEq, U.str.injEq, atI_0, atI_1, atI_2, atI_3, atI_4, atI_5, if_true, if_false, true_and, and_true, decide_true, decide_false, Bool.not_true, Bool.not_false, reduceCtorEq, ite_true, ite_false, decide_eq_true_eq, Bool.true_eq_false, Bool.false_eq_true]
        rw [w_ninI d9]
        by_cases hm : c ∈ F
        · rw [decide_eq_true hm]
          simp (config := {decide := true}) only [h0, w_run, w_geXI, w_geXP, w_lz, w_op, w_isi, Dg.wipeU, w_powI, w_intB, w_sl, w_oNone, w_oSome, w_slT, w_slF, w_ixF, w_lenF, w_abs, w_max2, w_min2, w_fdivI, w_neg, w_andE, w_orE, w_notE, w_chain, w_c, w_var, w_call, w_def, w_anil, w_acons, w_tup, w_lst, w_int, w_intB, w_lenT, w_addI, w_subI, w_modI, w_mulI, w_ltI, w_leI, w_gtI, w_geI, w_eq, w_ne, w_ixT, w_if, w_nt, w_an, w_or, w_all, w_tstB, w_tst, w_app, w_lc, w_for, w_iseqT, w_rg1, w_rev1, w_d0, Dg.eq_str, Dg.eq_int, s_seq, s_next, s_brk, s_cnt, s_expr, s_ret, s_retN, s_if, w_getE, w_items, w_keys, w_fmt, w_js0, w_js, s_asg1, s_store, s_tryAs, s_try, w_isX, s_raise, List.map_cons, List.map_nil, List.cons_append, List.nil_append, List.length_cons, List.length_nil, List.replicate_succ, List.replicate_zero, Nat.add_sub_cancel, Nat.sub_self, Nat.sub_zero, Nat.reduceAdd, Nat.reduceSub, Nat.zero_add, List.set_cons_succ, List.set_cons_zero, List.getElem?_cons_zero, List.getElem?_cons_succ, Option.some.injEq, exists_eq_left', exists_eq_left, exists_eq_right', U.bl.injEq, U.int.injEq, U.ref.injEq, U.str.injEq, atI_0, atI_1, atI_2, atI_3, atI_4, atI_5, if_true, if_false, true_and, and_true, decide_true, decide_false, Bool.not_true, Bool.not_false, reduceCtorEq, ite_true, ite_false, decide_eq_true_eq, Bool.true_eq_false, Bool.false_eq_true]
          refine ⟨_, lstU_L d6, _, lstU_L d9, ?_⟩
          rw [w_indexI d9 hm, w_append d6 (by rw [List.length_map]; simp only [lim]; omega)]
          rw [if_neg (by simp [hm])]
          refine ⟨_, _, order', rfl, T.put (.inl (Nat.le_refl _)), ?_, get_set_ne d8 n2, get_set_ne d9 n3, P2, ⟨gg, hgg⟩, hn1⟩
          rw [get_set d6, mapapp, if_neg hc1, List.map_append]
          rfl
        · rw [decide_eq_false hm]
          simp (config := {decide := true}) only [h0, w_run, w_geXI, w_geXP, w_lz, w_op, w_isi, Dg.wipeU, w_powI, w_intB, w_sl, w_oNone, w_oSome, w_slT, w_slF, w_ixF, w_lenF, w_abs, w_max2, w_min2, w_fdivI, w_neg, w_andE, w_orE, w_notE, w_chain, w_c, w_var, w_call, w_def, w_anil, w_acons, w_tup, w_lst, w_int, w_intB, w_lenT, w_addI, w_subI, w_modI, w_mulI, w_ltI, w_leI, w_gtI, w_geI, w_eq, w_ne, w_ixT, w_if, w_nt, w_an, w_or, w_all, w_tstB, w_tst, w_app, w_lc, w_for, w_iseqT, w_rg1, w_rev1, w_d0, Dg.eq_str, Dg.eq_int, s_seq, s_next, s_brk, s_cnt, s_expr, s_ret, s_retN, s_if, w_getE, w_items, w_keys, w_fmt, w_js0, w_js, s_asg1, s_store, s_tryAs, s_try, w_isX, s_raise, List.map_cons, List.map_nil, List.cons_append, List.nil_append, List.length_cons, List.length_nil, List.replicate_succ, List.replicate_zero, Nat.add_sub_cancel, Nat.sub_self, Nat.sub_zero, Nat.reduceAdd, Nat.reduceSub, Nat.zero_add, List.set_cons_succ, List.set_cons_zero, List.getElem?_cons_zero, List.getElem?_cons_succ, Option.some.injEq, exists_eq_left', exists_eq_left, exists_eq_right', U.bl.injEq, U.int.injEq, U.ref.injEq, U.str.injEq, atI_0, atI_1, atI_2, atI_3, atI_4, atI_5, if_true, if_false, true_and, and_true, decide_true, decide_false, Bool.not_true, Bool.not_false, reduceCtorEq, ite_true, ite_false, decide_eq_true_eq, Bool.true_eq_false, Bool.false_eq_true]
          rw [if_pos ⟨hc1, hm⟩]
          refine ⟨_, lstU_L d9, ?_⟩
          rw [w_append d9 (by rw [List.length_map]; simp only [lim]; omega)]
          have d8' := get_set_ne (c := .lst (F.map U.int ++ [.int c])) d8 (Ne.symm n1)
          refine ⟨_, lstU_L d8', ?_⟩
          rw [w_append d8' (by rw [List.length_map, iN_len, P2.len]; simp only [lim]; omega)]
          have d9' := get_set (c := .lst (F.map U.int ++ [.int c])) d9
          have d9'' := get_set_ne (c := .lst ((iN order').map U.int ++ [.int t])) d9' n1
          have d6' := get_set_ne (c := .lst ((iN order').map U.int ++ [.int t])) (get_set_ne (c := .lst (F.map U.int ++ [.int c])) d6 (Ne.symm n3)) (Ne.symm n2)
          have d8'' := get_set (c := .lst ((iN order').map U.int ++ [.int t])) d8'
          have T2 : Two r6 r8 r9 μ ((μ2.set r9 (.lst (F.map U.int ++ [.int c]))).set r8 (.lst ((iN order').map U.int ++ [.int t]))) := (T.put (.inr (.inr rfl))).put (.inr (.inl rfl))
          generalize (μ2.set r9 (.lst (F.map U.int ++ [.int c]))).set r8 (.lst ((iN order').map U.int ++ [.int t])) = μ5 at d9'' d6' d8'' T2
          have d9c : μ5[r9]? = some (.lst ((F ++ [c]).map U.int)) := by rw [d9'']; simp
          try walk_at "gos"
          refine ⟨_, lstU_L d6', _, lstU_L d9c, ?_⟩
          rw [w_indexI d9c (by simp), w_append d6' (by rw [List.length_map]; simp only [lim]; omega)]
          refine ⟨_, _, order' ++ [t.toNat], rfl, T2.put (.inl (Nat.le_refl _)), ?_, ?_, get_set_ne d9c n3, ⟨by simp [P2.len], fun i s2 c2 h1 h2 => ?_⟩, ⟨gg ++ [t.toNat], by rw [hgg]; simp⟩, fun x hx => ?_⟩
          · rw [get_set d6', mapapp, if_neg hc1, mapd_ext memes, List.map_append]
            rfl
          · rw [get_set_ne d8'' n2]
            simp [iN, Int.toNat_of_nonneg t0]
          · by_cases hi : i < order'.length
            · rw [List.getElem?_append_left hi] at h1
              rw [List.getElem?_append_left (by rw [← P2.len]; exact hi)] at h2
              exact P2.at_ i s2 c2 h1 h2
            · have hil := (List.getElem?_eq_some_iff.mp h1).1
              have : i = order'.length := by simp at hil; omega
              subst this
              rw [List.getElem?_append_right (Nat.le_refl _), Nat.sub_self] at h1
              rw [P2.len, List.getElem?_append_right (Nat.le_refl _), Nat.sub_self] at h2
              cases h1; cases h2
              exact ⟨by omega, hkt⟩
          · rcases List.mem_append.mp hx with hx | hx
            · exact hn1 x hx
            · simp at hx; subst hx; exact hc1
    generalize bfT C = TT at step ⊢
    walk_at "gos"
    by_cases h0 : 0 ≤ t
    · obtain ⟨tn, rfl⟩ := Int.eq_ofNat_of_zero_le h0
      rw [if_pos (by simp [h0])]
      rw [w_ixL ck2, Dg.atI_nat, gi_at (by omega)]
      refine ⟨_, rfl, ?_⟩
      have hk : kap K (tn : Int) = gi K tn := by unfold kap; rw [if_pos h0, Int.toNat_natCast]
      rw [hk] at step
      exact step
    · rw [if_neg (by simp; omega)]
      have hk : kap K t = 0 := by unfold kap; rw [if_neg h0]
      rw [hk] at step
      exact step
  · rintro s' μ2 ⟨x7, x12, order', rfl, T, d6, d8, d9, P2, hgg, hn1⟩
    rw [List.length_map, List.take_length] at d6 d9 P2 hn1
    exact q x7 x12 order' μ2 T d6 d8 d9 P2 hgg hn1
end Le
namespace Le
def bfBody (C : Calls) : FS := (sIf (tstB (fOp uLt (fVar 11) (fCall bLen (aCons (fVar 8) aNil)))) (sSeq (sAsg (.one 6) (fLst aNil))
    (sSeq (bfRow C)
    (sExpr (fMtL gAppend (fVar 10) (aCons (fCall bTuple (aCons (fVar 6) aNil)) aNil))))) sNext)
def ll8 (C : Calls) : FS := (sSeq (sAsg (.one 8) (fLst (aCons (fC (.int 0)) aNil)))
    (sSeq (sAsg (.one 9) (fLst (aCons (fOp ixU (fVar 2) (fC (.int 0))) aNil)))
    (sSeq (sAsg (.one 10) (fLst aNil))
    (sSeq (sFor (iRg1 (fCall bLen (aCons (fVar 1) aNil))) (.one 11) (bfBody C))
    (sRet (fTup (aCons (fOp ixU (fVar 0) (fC (.int 0))) (aCons (fCall bTuple (aCons (fVar 10) aNil)) (aCons (fCall bTuple (aCons (fLc (iSeq (fVar 8)) [5] (.one 5) tAll (fOp ixU (fOp ixU (fVar 0) (fC (.int 2))) (fVar 5))) aNil)) aNil)))))))))
theorem ll_is (C : Calls) : b__law_least C = (sSeq (sAsg (.one 1) (fDef 1 (C 19) (aCons (fVar 0) aNil)))
    (sSeq (sIf (tOr' (tstB (fOp uEq (fCall bLen (aCons (fVar 1) aNil)) (fC (.int 0)))) (tNt (tst (fOp ixU (fVar 1) (fC (.int 0)))))) (sRet (fTup (aCons (fOp ixU (fVar 0) (fC (.int 0))) (aCons (fTup aNil) (aCons (fTup aNil) aNil))))) sNext)
    (sSeq (sAsg (.one 2) (fLc (iRg1 (fCall bLen (aCons (fVar 1) aNil))) [5] (.one 5) tAll (fOp uAdd (fCall bInt (aCons (fOp ixU (fVar 1) (fVar 5)) aNil)) (fCall bInt (aCons (fOp ixU (fOp ixU (fVar 0) (fC (.int 2))) (fVar 5)) aNil)))))
    (sSeq (sFor (iRg1 (fCall bLen (aCons (fVar 1) aNil))) (.one 3) (rdBody C))
    (ll8 C))))) := rfl
structure LawLeastS (g : List U → Mem → Res U) : Prop where
  ap : ∀ {M : Mc} {μ : Mem} {Q : U → Mem → Prop} {E : Str → Mem → Prop}, M.ok → M.L ≤ 200 → M.mv.length ≤ 400 → (∀ O B μ', Fr μ μ' → Canon M.L (lng M.mv M.ac 0) O B → Q (mcU M.L O B) μ') → wpE (g [mU M] μ) Q E
/-- what the law makes is the one -/
theorem law_canon {M : Mc} {K : List Int} {order : List Nat} {seen : List Int} {ess : List (List Int)} (ok : M.ok) (hn0 : 0 < M.mv.length) (hpos : ∀ s, s < M.mv.length → 0 ≤ gi K s) (hdead : ∀ s : Nat, s < M.mv.length → (gi K s = 0 ↔ ∀ w, lng M.mv M.ac s w = false))
    (hsame : ∀ s t : Nat, s < M.mv.length → t < M.mv.length → (gi K s = gi K t ↔ ∀ w, lng M.mv M.ac s w = lng M.mv M.ac t w)) (hlive : gi K 0 ≠ 0) (hs : seen = run [gi K 0] ess) (P : Par M.mv.length K order seen) (ho : order[0]? = some 0) (hl : ess.length = seen.length)
    (hlt : ∀ j, j < ess.length → j < (run [gi K 0] (ess.take j)).length) (hes : ∀ (j s : Nat), order[j]? = some s → ess[j]? = some (erow M K s)) : Canon M.L (lng M.mv M.ac 0) (ess.map (mapd seen)) (order.map fun s => gb M.ac s) := by
  have nd : seen.Nodup := by rw [hs]; exact run_nodup ess (by simp)
  have pl := P.len
  have par : ∀ (i s : Nat), order[i]? = some s → s < M.mv.length ∧ seen[i]? = some (gi K s) := fun i s h => by
    have hi := (List.getElem?_eq_some_iff.mp h).1
    have h2 : seen[i]? = some seen[i] := List.getElem?_eq_getElem (by omega)
    obtain ⟨a, b⟩ := P.at_ i s _ h h2
    exact ⟨a, by rw [h2, b]⟩
  have livek : ∀ (i s : Nat), order[i]? = some s → gi K s ≠ 0 := by
    have key : ∀ c ∈ seen, c ≠ 0 := by
      have gen : ∀ (es : List (List Int)) (f0 : List Int), (∀ c ∈ f0, c ≠ 0) → (∀ r ∈ es, ∀ e ∈ r, e ≠ 0) → ∀ c ∈ run f0 es, c ≠ 0 := by
        intro es
        induction es with
        | nil => exact fun f0 h _ => h
        | cons e es ih =>
          intro f0 h0 h1
          refine ih (addR f0 e) (fun c hc => ?_) (fun r hr => h1 r (by simp [hr]))
          rcases (addR_mem e).mp hc with h | ⟨h, _⟩
          · exact h0 c h
          · exact h1 e (by simp) c h
      rw [hs]
      refine gen ess _ (fun c hc => by simp at hc; subst hc; exact hlive) fun r hr e he => ?_
      obtain ⟨j, hj⟩ := List.getElem?_of_mem hr
      have hjl := (List.getElem?_eq_some_iff.mp hj).1
      have := hes j order[j] (List.getElem?_eq_getElem (by omega))
      rw [hj] at this
      cases this
      unfold erow at he
      obtain ⟨t, _, rfl⟩ := List.mem_map.mp he
      unfold ent
      split
      · decide
      · assumption
    intro i s h
    exact key _ (List.mem_of_getElem? (par i s h).2)
  refine canon_of (M := M.mv) (B := M.ac) (rp := order) (wf_of ok) (by simp [hl, pl]) (by simp [hl, pl]) (fun h => ?_) (fun s h w => ?_) (fun i s h => ?_) (fun i s h => ?_) (fun r hr => ?_) (fun i s r h hr a e ha => ?_) (fun i j s t h1 h2 h => ?_) fun _ => ?_
  · have := congrArg List.length h
    have h0 := (List.getElem?_eq_some_iff.mp ho).1
    simp at this
    rw [this] at hl
    simp at hl
    omega
  · rw [ho] at h; cases h; rfl
  · have h1 := livek i s h
    have h2 := (par i s h).1
    apply Classical.byContradiction
    intro hx
    apply h1
    rw [hdead s h2]
    intro w
    cases hb : lng M.mv M.ac s w with
    | false => rfl
    | true => exact absurd ⟨w, hb⟩ hx
  · unfold end_
    rw [if_neg (by omega), Int.toNat_natCast, List.getD_eq_getElem?_getD, List.getElem?_map, h, if_neg (by omega), Int.toNat_natCast]
    rfl
  · obtain ⟨es, he, rfl⟩ := List.mem_map.mp hr
    obtain ⟨j, hj⟩ := List.getElem?_of_mem he
    have hjl := (List.getElem?_eq_some_iff.mp hj).1
    have hoj : order[j]? = some order[j] := List.getElem?_eq_getElem (by omega)
    have := hes j _ hoj
    rw [hj] at this
    cases this
    have h2 := (par j _ hoj).1
    unfold mapd erow
    rw [List.length_map, List.length_map, row_at h2]
    exact (ok.row _ (List.getElem_mem h2)).1
  · rw [List.getElem?_map, hes i s h] at hr
    cases hr
    have h2 := (par i s h).1
    have hstp : Le.stp M.mv s a = (M.mv.getD s []).getD a (-1) := by rw [stp_get (by omega), Int.toNat_natCast]
    unfold mapd erow at ha
    rw [List.map_map, List.getElem?_map] at ha
    cases et : (M.mv.getD s [])[a]? with
    | none => rw [et] at ha; cases ha
    | some t =>
      rw [et] at ha
      have hst2 : Le.stp M.mv s a = t := by rw [hstp, List.getD_eq_getElem?_getD, et]; rfl
      have hb2 := (wf_of ok).stp_in (s := (s : Int)) (a := a)
      rw [hst2] at hb2 ⊢
      simp only [Option.map_some, Function.comp, Option.some.injEq] at ha
      by_cases hk : kap K t = 0
      · have e1 : ent K t = -1 := by unfold ent; rw [if_pos hk]
        rw [e1, if_pos rfl] at ha
        refine .inl ⟨ha.symm, fun w => ?_⟩
        by_cases h0 : 0 ≤ t
        · unfold kap at hk
          rw [if_pos h0] at hk
          have := (hdead t.toNat (by omega)).mp hk w
          rwa [Int.toNat_of_nonneg h0] at this
        · exact lng_neg (by omega) w
      · have e1 : ent K t = kap K t := by unfold ent; rw [if_neg hk]
        have h0 : 0 ≤ t := by
          by_cases h : 0 ≤ t
          · exact h
          · unfold kap at hk; rw [if_neg h] at hk; exact absurd rfl hk
        have hkt : kap K t = gi K t.toNat := by unfold kap; rw [if_pos h0]
        have hne1 : kap K t ≠ -1 := by rw [hkt]; have := hpos t.toNat (by omega); omega
        rw [e1, if_neg hne1] at ha
        have hmem : kap K t ∈ seen := by
          refine run_in hs _ (List.mem_of_getElem? (hes i s h)) _ ?_ hne1
          unfold erow
          exact List.mem_map.mpr ⟨t, List.mem_of_getElem? et, e1⟩
        have hix := List.idxOf_lt_length_of_mem hmem
        have ho2 : order[seen.idxOf (kap K t)]? = some (order[seen.idxOf (kap K t)]'(by omega)) := List.getElem?_eq_getElem (by omega)
        refine .inr ⟨seen.idxOf (kap K t), _, ha.symm, ho2, fun w => ?_⟩
        obtain ⟨p1, p2⟩ := par _ _ ho2
        rw [List.getElem?_eq_getElem hix, List.getElem_idxOf hix] at p2
        have p3 := Option.some.inj p2
        have := (hsame _ t.toNat p1 (by omega)).mp (p3.symm.trans hkt) w
        rw [this, Int.toNat_of_nonneg h0]
  · obtain ⟨a1, a2⟩ := par i s h1
    obtain ⟨b1, b2⟩ := par j t h2
    have e := (hsame s t a1 b1).mpr h
    rw [← e] at b2
    obtain ⟨l1, e1⟩ := List.getElem?_eq_some_iff.mp a2
    obtain ⟨l2, e2⟩ := List.getElem?_eq_some_iff.mp b2
    exact Dg.nodup_inj nd l1 l2 (e1.trans e2.symm)
  · have := num_run ess (f := [gi K 0]) (F := seen) (i := 0) hs nd (fun j hj => by rw [Nat.zero_add]; exact hlt j hj) (by omega)
    rw [List.length_map, hl]
    exact this
theorem ll8_s {C : Calls} {M : Mc} {V : List Bool} {K : List Int} (ok : M.ok) (hL : M.L ≤ 200) (hn : M.mv.length ≤ 400) (hn0 : 0 < M.mv.length) (hV : V.length = M.mv.length) (hK : K.length = M.mv.length) (hpos : ∀ s, s < M.mv.length → 0 ≤ gi K s) (hdead : ∀ s : Nat, s < M.mv.length → (gi K s = 0 ↔ ∀ w, lng M.mv M.ac s w = false))
    (hsame : ∀ s t : Nat, s < M.mv.length → t < M.mv.length → (gi K s = gi K t ↔ ∀ w, lng M.mv M.ac s w = lng M.mv M.ac t w)) (hlive : gi K 0 ≠ 0) {ru rk : Nat} {x3 x4 x5 x6 x7 x8 x9 x10 x11 x12 : Option U} {μ : Mem} {D : Dn} (cu : μ[ru]? = some (.lst (V.map U.bl))) (ck : μ[rk]? = some (.lst (K.map U.int)))
    (q : ∀ O B μ', Fr μ μ' → Canon M.L (lng M.mv M.ac 0) O B → D.rt (mcU M.L O B) μ') : Dg.wpS (ll8 C (Sl M ru rk x3 x4 x5 x6 x7 x8 x9 x10 x11 x12) μ) D := by
  unfold ll8
  have bf := fun (r6 r8 r9 r10 at' s : Nat) (order : List Nat) (seen : List Int) x4 x5 x7 x12 (μ1 : Mem) (D : Dn) hs ck c6 c8 c9 hne ho P nd hsn q => @bfRow_s C M V K ok hL hn hK hpos ru rk r6 r8 r9 r10 at' s order seen x3 x4 x5 x7 x12 μ1 D hs ck c6 c8 c9 hne ho P nd hsn q
  unfold bfBody
  generalize bfRow C = T at bf ⊢
  walk_at "gos"
  have e0 : atI (K.map U.int) 0 = some (.int (gi K 0)) := by
    rw [show (0 : Int) = ((0 : Nat) : Int) from rfl, Dg.atI_nat, gi_at (by omega)]
  rw [w_ixL (get_snoc_lt ck)]
  refine ⟨_, e0, ?_⟩
  try walk_at "gos"
  have c8 : (μ ++ [Cell.lst [U.int 0]] ++ [Cell.lst [U.int (gi K 0)]] ++ [Cell.lst []])[μ.length]? = some (.lst ((iN [0]).map U.int)) := get_snoc_lt (get_snoc_lt get_snoc)
  have c9 : (μ ++ [Cell.lst [U.int 0]] ++ [Cell.lst [U.int (gi K 0)]] ++ [Cell.lst []])[μ.length + 1]? = some (.lst ([gi K 0].map U.int)) := by
    refine get_snoc_lt ?_
    have := get_snoc (μ := μ ++ [Cell.lst [U.int 0]]) (c := Cell.lst [U.int (gi K 0)])
    simpa using this
  have c10 : (μ ++ [Cell.lst [U.int 0]] ++ [Cell.lst [U.int (gi K 0)]] ++ [Cell.lst []])[μ.length + 2]? = some (.lst ([] : List U)) := by
    have := get_snoc (μ := μ ++ [Cell.lst [U.int 0]] ++ [Cell.lst [U.int (gi K 0)]]) (c := Cell.lst ([] : List U))
    simpa using this
  have f0 : Fr μ (μ ++ [Cell.lst [U.int 0]] ++ [Cell.lst [U.int (gi K 0)]] ++ [Cell.lst []]) := Fr.refl.snoc.snoc.snoc
  have l0 : (μ ++ [Cell.lst [U.int 0]] ++ [Cell.lst [U.int (gi K 0)]] ++ [Cell.lst []]).length = μ.length + 3 := by simp
  rw [show (μ ++ [Cell.lst [U.int 0]]).length = μ.length + 1 by simp, show (μ ++ [Cell.lst [U.int 0]] ++ [Cell.lst [U.int (gi K 0)]]).length = μ.length + 2 by simp]
  generalize (μ ++ [Cell.lst [U.int 0]] ++ [Cell.lst [U.int (gi K 0)]] ++ [Cell.lst []]) = μ1 at c8 c9 c10 f0 l0
  rw [w_lenL (f0.at_ _ _ cu), List.length_map, hV]
  refine ⟨_, rfl, by simp [okR]; omega, ?_⟩
  have lk := get_lt ck
  have parlen : ∀ {o : List Nat} {f : List Int}, Par M.mv.length K o f → f.Nodup → f.length ≤ M.mv.length := by
    intro o f P nd
    have hl := P.len
    have ndo : o.Nodup := by
      rw [List.nodup_iff_pairwise_ne, List.pairwise_iff_getElem]
      intro i j hi hj hij e
      have a := (P.at_ i _ _ (List.getElem?_eq_getElem hi) (List.getElem?_eq_getElem (by omega))).2
      have b := (P.at_ j _ _ (List.getElem?_eq_getElem hj) (List.getElem?_eq_getElem (by omega))).2
      rw [e, b] at a
      have := Dg.nodup_inj nd (i := j) (j := i) (by omega) (by omega) a
      omega
    have := ndo.length_le_of_subset (l₂ := List.range M.mv.length) fun x hx => by
      obtain ⟨i, hi⟩ := List.getElem?_of_mem hx
      have hil := (List.getElem?_eq_some_iff.mp hi).1
      exact List.mem_range.mpr (P.at_ i x _ hi (List.getElem?_eq_getElem (by omega))).1
    simp at this; omega
  refine for_rng M.mv.length (fun at' s' μ' => ∃ (x5 x6 x7 x11 x12 : Option U) (order : List Nat) (ess : List (List Int)), s' = Sl M ru rk x3 x4 x5 x6 x7 (some (.ref μ.length)) (some (.ref (μ.length + 1))) (some (.ref (μ.length + 2))) x11 x12 ∧ Fr μ μ' ∧
      μ'[μ.length]? = some (.lst ((iN order).map U.int)) ∧ μ'[μ.length + 1]? = some (.lst ((run [gi K 0] ess).map U.int)) ∧ μ'[μ.length + 2]? = some (.lst ((ess.map (mapd (run [gi K 0] ess))).map fun r => U.tup (r.map U.int))) ∧ Par M.mv.length K order (run [gi K 0] ess) ∧ order[0]? = some 0 ∧
      ((ess.length = at' ∧ at' ≤ (run [gi K 0] ess).length) ∨ (ess.length = (run [gi K 0] ess).length ∧ ess.length ≤ at')) ∧ (∀ j, j < ess.length → j < (run [gi K 0] (ess.take j)).length) ∧ (∀ (j s : Nat), j < ess.length → order[j]? = some s → ess[j]? = some (erow M K s)) ∧ (∀ c ∈ run [gi K 0] ess, c ≠ -1)) (by simp) (by omega)
    ⟨x5, x6, x7, x11, x12, [0], [], rfl, f0, c8, c9, c10, ⟨rfl, fun i s c h1 h2 => ?_⟩, rfl, .inl ⟨rfl, Nat.zero_le _⟩, fun j hj => by simp at hj, fun j s hj => by simp at hj, fun c hc => ?_⟩ ?_ ?_
  · have hi := (List.getElem?_eq_some_iff.mp h1).1
    have : i = 0 := by simp at hi; omega
    subst this
    simp [run] at h1 h2
    subst h1 h2
    exact ⟨hn0, rfl⟩
  · simp [run] at hc
    subst hc
    have := hpos 0 hn0
    omega
  · rintro at' s' μ2 hat ⟨x5, x6, x7, x11, x12, order, ess, rfl, f2, d8, d9, d10, P, ho, hor, hlt, hes, hn1⟩
    refine ⟨_, rfl, ?_⟩
    have nd : (run [gi K 0] ess).Nodup := run_nodup ess (by simp)
    have pl := P.len
    have few := parlen P nd
    walk_at "gos"
    rw [w_lenL d8, List.length_map, iN_len]
    try walk_at "gos"
    by_cases hlo : at' < order.length
    · rw [if_pos (by omega)]
      have hel : ess.length = at' := by rcases hor with h | h <;> omega
      have hoa : order[at']? = some order[at'] := List.getElem?_eq_getElem hlo
      have hsn := (P.at_ at' _ _ hoa (List.getElem?_eq_getElem (by omega))).1
      have c6 : (μ2 ++ [Cell.lst []])[μ2.length]? = some (.lst ([] : List U)) := get_snoc
      have g8 := get_snoc_lt (c := Cell.lst []) d8
      have g9 := get_snoc_lt (c := Cell.lst []) d9
      have g10 := get_snoc_lt (c := Cell.lst []) d10
      have l10 := get_lt d10
      have hl2 := f2.le
      try walk_at "gos"
      refine bf μ2.length μ.length (μ.length + 1) (μ.length + 2) at' order[at'] order (run [gi K 0] ess) _ _ _ _ _ _ hsn (get_snoc_lt (f2.at_ _ _ ck)) c6 g8 g9 ⟨by omega, by omega, by omega, by omega, by omega, by omega⟩ hoa P nd hn1 fun x7' x12' order' μ3 T h6 h8 h9 P3 hg h1 => ?_
      obtain ⟨gg, hgg⟩ := hg
      have h10 := T.at_ (μ.length + 2) _ l10 (by omega) (by omega) g10
      try walk_at "gos"
      refine ⟨_, lstU_L h10, ?_⟩
      rw [w_tupleL h6]
      rw [w_append h10 (by simp only [List.length_map, lim]; omega)]
      have hrs : run [gi K 0] (ess ++ [erow M K order[at']]) = addR (run [gi K 0] ess) (erow M K order[at']) := run_snoc
      obtain ⟨ag, hag⟩ := addR_ext (erow M K order[at']) (run [gi K 0] ess)
      have memb : ∀ r ∈ ess, ∀ e ∈ r, e = -1 ∨ e ∈ run [gi K 0] ess := fun r hr e he => by
        by_cases h : e = -1
        · exact .inl h
        · exact .inr (run_in rfl r hr e he h)
      refine ⟨_, _, _, _, _, order', ess ++ [erow M K order[at']], rfl, ?_, get_set_ne h8 (by omega), by rw [hrs]; exact get_set_ne h9 (by omega), ?_, by rw [hrs]; exact P3, by rw [hgg, List.getElem?_append_left (by omega)]; exact ho, .inl ⟨by simp [hel], ?_⟩, fun j hj => ?_, fun j s hj h => ?_, by rw [hrs]; exact h1⟩
      · refine ⟨?_, fun i c e => get_set_ne (T.at_ i c (by have := get_lt (f2.at_ _ _ e); omega) (by have := get_lt e; omega) (by have := get_lt e; omega) (get_snoc_lt (f2.at_ _ _ e))) (by have := get_lt e; omega)⟩
        have := T.le
        simp at this ⊢
        omega
      · rw [get_set h10, hrs, List.map_append, List.map_append, hag]
        congr 3
        congr 1
        refine List.map_congr_left fun r hr => ?_
        rw [mapd_ext (memb r hr)]
      · rw [hrs, hag, List.length_append]
        omega
      · by_cases hj2 : j < ess.length
        · rw [List.take_append_of_le_length (by omega)]
          exact hlt j hj2
        · have : j = ess.length := by simp at hj; omega
          subst this
          rw [List.take_left]
          omega
      · by_cases hj2 : j < ess.length
        · rw [List.getElem?_append_left hj2]
          refine hes j s hj2 ?_
          rw [hgg, List.getElem?_append_left (by omega)] at h
          exact h
        · have : j = ess.length := by simp at hj; omega
          subst this
          rw [hgg, hel, List.getElem?_append_left hlo, hoa] at h
          cases h
          rw [List.getElem?_append_right (Nat.le_refl _), Nat.sub_self]
          rfl
    · rw [if_neg (by omega)]
      try walk_at "gos"
      refine ⟨_, _, _, _, _, order, ess, rfl, f2, d8, d9, d10, P, ho, ?_, hlt, hes, hn1⟩
      rcases hor with h | h
      · exact .inr ⟨by omega, by omega⟩
      · exact .inr ⟨h.1, by omega⟩
  · rintro s' μ2 ⟨x5, x6, x7, x11, x12, order, ess, rfl, f2, d8, d9, d10, P, ho, hor, hlt, hes, hn1⟩
    have nd : (run [gi K 0] ess).Nodup := run_nodup ess (by simp)
    have pl := P.len
    have few := parlen P nd
    have hel : ess.length = (run [gi K 0] ess).length := by rcases hor with h | h <;> omega
    have can := law_canon ok hn0 hpos hdead hsame hlive rfl P ho hel hlt (fun j s h => hes j s (by have := (List.getElem?_eq_some_iff.mp h).1; omega) h)
    walk_at "gos"
    rw [w_ixM0, w_tupleL d10]
    refine w_iseqS ?_
    try walk_at "gos"
    refine ⟨_, seq_Ls d8, fun j hj => ?_⟩
    refine lc_fm order (fun s => U.int ((s : Nat) : Int)) (fun _ => true) (fun s => .bl (gb M.ac s)) (by omega) (fun i acc => by rw [hj _ (seq_Ls (get_snoc_lt d8)) i, iN_map]) (fun s hs acc => ?_) ?_
    · obtain ⟨i, hi⟩ := List.getElem?_of_mem hs
      have hil := (List.getElem?_eq_some_iff.mp hi).1
      have hsn := (P.at_ i s _ hi (List.getElem?_eq_getElem (by omega))).1
      refine ⟨_, rfl, ?_⟩
      walk_at "gos"
      intro _
      rw [w_ixM2, w_ixT, Dg.atI_nat, gb_at (by rw [ok.ac]; exact hsn)]
      exact ⟨_, rfl, rfl, rfl⟩
    · rw [List.filter_eq_self.mpr (fun _ _ => rfl), w_tupleL get_snoc]
      have := q _ _ _ (f2.snoc (c := .lst (order.map fun s => U.bl (gb M.ac s)))) can
      unfold mcU at this
      rw [List.map_map (f := fun s => gb M.ac s)] at this
      exact this
theorem law_least_s {C : Calls} (h19 : UsefulS (C 19)) : LawLeastS (runDef 13 (b__law_least C)) := by
  constructor
  intro M μ Q E ok hL hn q
  rw [ll_is]
  have e8 := fun (V : List Bool) (K : List Int) (ru rk : Nat) x3 x4 x5 x6 x7 x8 x9 x10 x11 x12 (μ1 : Mem) (D : Dn) hn0 hV hK hpos hdead hsame hlive cu ck q => @ll8_s C M V K ok hL hn hn0 hV hK hpos hdead hsame hlive ru rk x3 x4 x5 x6 x7 x8 x9 x10 x11 x12 μ1 D cu ck q
  have rd := fun (V : List Bool) (K : List Int) (U0 : Us M V) hK (ru rk : Nat) x3 x4 x5 x6 x7 x8 x9 x10 x11 x12 (μ1 : Mem) (D : Dn) cu ck q => @rdBody_s C M V K U0 hL hn hK ru rk x3 x4 x5 x6 x7 x8 x9 x10 x11 x12 μ1 D cu ck q
  generalize ll8 C = T8 at e8 ⊢
  generalize rdBody C = TR at rd ⊢
  walk_at "gos"
  refine h19.ap ok hL hn fun V ru μ1 f1 lr cu hV hus => ?_
  have U0 : Us M V := ⟨ok, hV, hus⟩
  try walk_at "gos"
  rw [w_lenL cu, List.length_map, hV]
  walk_at "gos"
  by_cases hz : M.mv.length = 0
  · rw [hz]
    walk_at "gos"
    have : M.mv = [] := List.length_eq_zero_iff.mp hz
    have hac : M.ac = [] := List.length_eq_zero_iff.mp (by have := ok.ac; omega)
    have can : Canon M.L (lng M.mv M.ac 0) [] [] := by
      rw [this, hac]
      exact ⟨⟨rfl, fun r h => by simp at h⟩, fun w => rfl, fun i h => by simp at h, fun i j h => by simp at h, fun h => absurd rfl h⟩
    rw [w_ixM0]
    exact q [] [] μ1 f1 can
  · have hn0 : 0 < M.mv.length := by omega
    simp (config := {decide := true}) only [show ¬ ((M.mv.length : Nat) : Int) = 0 by omega, w_run, w_geXI, w_geXP, w_lz, w_op, w_isi, Dg.wipeU, w_powI, w_intB, w_sl, w_oNone, w_oSome, w_slT, w_slF, w_ixF, w_lenF, w_abs, w_max2, w_min2, w_fdivI, w_neg, w_andE, w_orE, w_notE, w_chain, w_c, w_var, w_call, w_def, w_anil, w_acons, w_tup, w_lst, w_int, w_intB, w_lenT, w_addI, w_subI, w_modI, w_mulI, w_ltI, w_leI, w_gtI, w_geI, w_eq, w_ne, w_ixT, w_if, w_nt, w_an, w_or, w_all, w_tstB, w_tst, w_app, w_lc, w_for, w_iseqT, w_rg1, w_rev1, w_d0, Dg.eq_str, Dg.eq_int, s_seq, s_next, s_brk, s_cnt, s_expr, s_ret, s_retN, s_if, w_getE, w_items, w_keys, w_fmt, w_js0, w_js, s_asg1, s_store, s_tryAs, s_try, w_isX, s_raise, List.map_cons, List.map_nil, List.cons_append, List.nil_append, List.length_cons, List.length_nil, List.replicate_succ, List.replicate_zero, Nat.add_sub_cancel, Nat.sub_self, Nat.sub_zero, Nat.reduceAdd, Nat.reduceSub, Nat.zero_add, List.set_cons_succ, List.set_cons_zero, List.getElem?_cons_zero, List.getElem?_cons_succ, Option.some.injEq, exists_eq_left', exists_eq_left, exists_eq_right', U.bl.injEq, U.int.injEq, U.ref.injEq, U.str.injEq, atI_0, atI_1, atI_2, atI_3, atI_4, atI_5, if_true, if_false, true_and, and_true, decide_true, decide_false, Bool.not_true, Bool.not_false, reduceCtorEq, ite_true, ite_false, decide_eq_true_eq, Bool.true_eq_false, Bool.false_eq_true]
    have e0 : atI (V.map U.bl) 0 = some (.bl (gb V 0)) := by
      rw [show (0 : Int) = ((0 : Nat) : Int) from rfl, Dg.atI_nat, gb_at (by omega)]
    rw [w_ixL cu]
    refine ⟨_, e0, _, tru_b, ?_⟩
    cases h0 : gb V 0 with
    | false =>
      walk_at "gos"
      have dead : ∀ w, lng M.mv M.ac 0 w = false := fun w => dead_of U0 hn0 h0 w
      have can : Canon M.L (lng M.mv M.ac 0) [] [] := ⟨⟨rfl, fun r h => by simp at h⟩, fun w => by
        rw [dead w]
        cases w with
        | nil => rfl
        | cons a w => rw [lng_cons]; exact lng_neg (by simp [Le.stp]) w, fun i h => by simp at h, fun i j h => by simp at h, fun h => absurd rfl h⟩
      rw [w_ixM0]
      exact q [] [] μ1 f1 can
    | true =>
      walk_at "gos"
      rw [w_lenL cu, List.length_map, hV]
      refine ⟨_, rfl, by simp [okR]; omega, ?_⟩
      rw [Int.toNat_natCast]
      refine lc_fm (List.range M.mv.length) (fun i => U.int ((i : Nat) : Int)) (fun _ => true) (fun s => .int ((if gb V s = true then (1 : Int) else 0) + (if gb M.ac s = true then 1 else 0))) (by simp; omega) (fun i acc => ?_) (fun s hs acc => ?_) ?_
      · rw [item_rng]
        by_cases h : i < M.mv.length
        · rw [if_pos h, List.getElem?_map, List.getElem?_range h]; simp
        · rw [if_neg h, List.getElem?_eq_none (by simp; omega)]
      · have hs' := List.mem_range.mp hs
        refine ⟨_, rfl, ?_⟩
        walk_at "gos"
        intro _
        rw [w_ixL (get_snoc_lt cu), Dg.atI_nat, gb_at (by omega)]
        refine ⟨_, rfl, ?_⟩
        walk_at "gos"
        rw [w_ixM2, w_ixT, Dg.atI_nat, gb_at (by rw [ok.ac]; exact hs')]
        refine ⟨_, rfl, ?_⟩
        walk_at "gos"
      rw [List.filter_eq_self.mpr (fun _ _ => rfl)]
      have ck : (μ1 ++ [Cell.lst ((List.range M.mv.length).map fun s => U.int ((if gb V s = true then (1 : Int) else 0) + (if gb M.ac s = true then 1 else 0)))])[μ1.length]? = some (.lst ((itK M V 0).map U.int)) := by
        rw [get_snoc]
        show _ = some (Cell.lst ((k0 M V).map U.int))
        unfold k0
        rw [List.map_map]
        rfl
      have f2 : Fr μ1 (μ1 ++ [Cell.lst ((List.range M.mv.length).map fun s => U.int ((if gb V s = true then (1 : Int) else 0) + (if gb M.ac s = true then 1 else 0)))]) := Fr.refl.snoc
      generalize μ1 ++ [Cell.lst ((List.range M.mv.length).map fun s => U.int ((if gb V s = true then (1 : Int) else 0) + (if gb M.ac s = true then 1 else 0)))] = μ2 at ck f2
      try walk_at "gos"
      rw [w_lenL (f2.at_ _ _ cu), List.length_map, hV]
      refine ⟨_, rfl, by simp [okR]; omega, ?_⟩
      refine for_rng M.mv.length (fun r s' μ' => ∃ (rk : Nat) (x3 x4 x5 x6 x7 : Option U), s' = Sl M ru rk x3 x4 x5 x6 x7 none none none none none ∧ Fr μ μ' ∧ μ'[ru]? = some (.lst (V.map U.bl)) ∧ μ'[rk]? = some (.lst ((itK M V r).map U.int))) (by simp) (by omega) ⟨_, _, _, _, _, _, rfl, f1.trans f2, f2.at_ _ _ cu, ck⟩ ?_ ?_
      · rintro r s' μ3 hr ⟨rk, x3, x4, x5, x6, x7, rfl, f3, c3, k3⟩
        refine ⟨_, rfl, ?_⟩
        refine rd V (itK M V r) U0 (itK_len r) ru rk _ x4 x5 x6 x7 _ _ _ _ _ μ3 _ c3 k3 fun rk' y4 y5 y6 y7 μ4 f4 k4 => ?_
        exact ⟨_, _, _, _, _, _, rfl, f3.trans f4, f4.at_ _ _ c3, k4⟩
      · rintro s' μ3 ⟨rk, x3, x4, x5, x6, x7, rfl, f3, c3, k3⟩
        have kp := fun {s : Nat} (hs : s < M.mv.length) => K_pos U0 M.mv.length hs
        have hg : ∀ s, s < M.mv.length → (gb V s = true → 1 ≤ gi (itK M V M.mv.length) s) ∧ (gb V s = false → gi (itK M V M.mv.length) s = 0) := fun s hs => kp hs
        refine e8 V (itK M V M.mv.length) ru rk _ _ _ _ _ _ _ _ _ _ μ3 _ hn0 hV (itK_len _) (fun s hs => ?_) (fun s hs => ?_) (fun s t hs ht => K_end U0 hs ht) ?_ c3 k3 fun O B μ4 f4 can => q O B μ4 (f3.trans f4) can
        · cases hb : gb V s with
          | true => have := (hg s hs).1 hb; omega
          | false => have := (hg s hs).2 hb; omega
        · cases hb : gb V s with
          | true =>
            have h1 := (hg s hs).1 hb
            obtain ⟨w, hw⟩ := (hus s hs).mp hb
            constructor
            · intro h; omega
            · intro h; rw [h w] at hw; cases hw
          | false => exact ⟨fun _ w => dead_of U0 hs hb w, fun _ => (hg s hs).2 hb⟩
        · have := (hg 0 hn0).1 h0; omega
end Le
namespace Le
def lineM : Mc := ⟨1, (List.range 299).map (fun i => [((i : Nat) : Int) + 1]) ++ [[-1]], (List.range 300).map fun i => decide (i = 299)⟩
theorem line_len : lineM.mv.length = 300 := by simp [lineM]
theorem line_at {i : Nat} (h : i < 299) : lineM.mv.getD i [] = [((i : Nat) : Int) + 1] := by
  unfold lineM
  rw [List.getD_eq_getElem?_getD]
  simp only
  rw [List.getElem?_append_left (by simpa using h), List.getElem?_map, List.getElem?_range h]
  rfl
theorem line_last : lineM.mv.getD 299 [] = [-1] := by
  unfold lineM
  rw [List.getD_eq_getElem?_getD]
  simp only
  rw [List.getElem?_append_right (by simp)]
  simp
theorem line_ok : lineM.ok := by
  refine ⟨by simp [lineM], fun r hr => ?_⟩
  rw [line_len]
  unfold lineM at hr
  rcases List.mem_append.mp hr with hr | hr
  · obtain ⟨i, hi, rfl⟩ := List.mem_map.mp hr
    have := List.mem_range.mp hi
    refine ⟨rfl, fun t ht => ?_⟩
    simp at ht; subst ht
    omega
  · simp at hr; subst hr
    refine ⟨rfl, fun t ht => ?_⟩
    simp at ht; subst ht
    omega
theorem line_end {i : Nat} (h : i < 300) : end_ lineM.ac i = decide (i = 299) := by
  unfold end_
  rw [if_neg (by omega), Int.toNat_natCast, List.getD_eq_getElem?_getD]
  unfold lineM
  simp only
  rw [List.getElem?_map, List.getElem?_range h]
  rfl
theorem line_lng : ∀ (k i : Nat), i < 300 → lng lineM.mv lineM.ac i (List.replicate k 0) = decide (i + k = 299)
  | 0, i, h => by
    rw [List.replicate_zero, lng_nil, line_end h]
    simp
  | k + 1, i, h => by
    rw [List.replicate_succ, lng_cons]
    by_cases h2 : i < 299
    · have e : Le.stp lineM.mv (i : Int) 0 = ((i + 1 : Nat) : Int) := by
        unfold Le.stp
        rw [if_neg (by omega), Int.toNat_natCast, line_at h2]
        rfl
      rw [e, line_lng k (i + 1) (by omega)]
      congr 1
      apply propext
      omega
    · have : i = 299 := by omega
      subst this
      have e : Le.stp lineM.mv ((299 : Nat) : Int) 0 = -1 := by
        unfold Le.stp
        rw [if_neg (by omega), Int.toNat_natCast, line_last]
        rfl
      rw [e, lng_neg (by decide)]
      simp
theorem line_num : ∀ (m i : Nat), i + m = 299 → Num i (i + 1) ((List.range' i m).map (fun i => [((i : Nat) : Int) + 1]) ++ [[-1]]) 300
  | 0, i, h => by
    have : i = 299 := by omega
    subst this
    refine ⟨by omega, 300, rfl, rfl, rfl⟩
  | m + 1, i, h => by
    rw [List.range'_succ, List.map_cons, List.cons_append]
    refine ⟨by omega, i + 2, ?_, line_num m (i + 1) (by omega)⟩
    unfold cnt
    rw [if_neg (by omega), if_pos (by omega)]
    rfl
theorem line_canon : Canon 1 (lng lineM.mv lineM.ac 0) lineM.mv lineM.ac := by
  refine ⟨wf_of line_ok, fun w => rfl, fun i hi => ⟨List.replicate (299 - i) 0, ?_⟩, fun i j hi hj h => ?_, fun _ => ?_⟩
  · rw [line_len] at hi
    rw [line_lng _ _ hi]
    exact decide_eq_true (by omega)
  · rw [line_len] at hi hj
    have := h (List.replicate (299 - i) 0)
    rw [line_lng _ _ hi, line_lng _ _ hj] at this
    rw [decide_eq_true (by omega : i + (299 - i) = 299)] at this
    have := of_decide_eq_true this.symm
    omega
  · rw [line_len]
    have := line_num 299 0 rfl
    rw [show (List.range' 0 299) = List.range 299 from List.range_eq_range'.symm] at this
    exact this
structure LineS (g : List U → Mem → Res U) : Prop where
  ap : ∀ {μ : Mem} {Q : U → Mem → Prop} {E : Str → Mem → Prop}, (∀ μ', Fr μ μ' → Q (mU lineM) μ') → wpE (g [.int 300] μ) Q E
theorem line_s {C : Calls} : LineS (runDef 3 (b__law_line C)) := by
  constructor
  intro μ Q E q
  unfold b__law_line
  walk_at "gos"
  refine lc_fm (List.range 299) (fun i => U.int ((i : Nat) : Int)) (fun _ => true) (fun i => U.tup [.int (((i : Nat) : Int) + 1)]) (by simp) (fun i acc => ?_) (fun i hi acc => ?_) ?_
  · rw [item_rng]
    by_cases h : i < 299
    · rw [if_pos (by simpa using h), List.getElem?_map, List.getElem?_range h]; simp
    · rw [if_neg (by simpa using h), List.getElem?_eq_none (by simp; omega)]
  · refine ⟨_, rfl, ?_⟩
    walk_at "gos"
  rw [List.filter_eq_self.mpr (fun _ _ => rfl), w_tupleL get_snoc]
  have f1 : Fr μ (μ ++ [Cell.lst ((List.range 299).map fun i => U.tup [.int (((i : Nat) : Int) + 1)])]) := Fr.refl.snoc
  generalize μ ++ [Cell.lst ((List.range 299).map fun i => U.tup [.int (((i : Nat) : Int) + 1)])] = μ1 at f1
  try walk_at "gos"
  rw [w_addT (by simp [lim])]
  try walk_at "gos"
  refine lc_fm (List.range 300) (fun i => U.int ((i : Nat) : Int)) (fun _ => true) (fun i => U.bl (decide (i = 299))) (by simp) (fun i acc => ?_) (fun i hi acc => ?_) ?_
  · rw [item_rng]
    by_cases h : i < 300
    · rw [if_pos (by simpa using h), List.getElem?_map, List.getElem?_range h]; simp
    · rw [if_neg (by simpa using h), List.getElem?_eq_none (by simp; omega)]
  · refine ⟨_, rfl, ?_⟩
    walk_at "gos"
    intro _
    have : (((i : Nat) : Int) = 299) = (i = 299) := propext (by omega)
    simp [this]
  rw [List.filter_eq_self.mpr (fun _ _ => rfl), w_tupleL get_snoc]
  have := q _ (f1.snoc (c := .lst ((List.range 300).map fun i => U.bl (decide (i = 299)))))
  have e : mU lineM = .tup [.int 1, .tup ((List.range 299).map (fun i => U.tup [.int (((i : Nat) : Int) + 1)]) ++ [.tup [.int (-1)]]), .tup ((List.range 300).map fun i => U.bl (decide (i = 299)))] := by
    unfold mU lineM
    simp only [List.map_append, List.map_map]
    rfl
  rw [e] at this
  exact this
structure DoubledS (g : List U → Mem → Res U) : Prop where
  ap : ∀ {M : Mc} {nums : List Int} {rn : Nat} {μ : Mem} {Q : U → Mem → Prop} {E : Str → Mem → Prop}, M.ok → M.L ≤ 20 → M.mv.length ≤ 20 → μ[rn]? = some (.lst (nums.map U.int)) → 100 ≤ nums.length →
    (∀ (M' : Mc) μ', M'.ok → M'.L = M.L → M'.mv.length = 2 * M.mv.length → Fr μ μ' → Q (mU M') μ') → wpE (g [mU M, .ref rn] μ) Q E
theorem doubled_s {C : Calls} : DoubledS (runDef 7 (b__law_doubled C)) := by
  constructor
  intro M nums rn μ Q E ok hL hn cn hnum q
  unfold b__law_doubled
  walk_at "gos"
  rw [w_ixM1]
  walk_at "gos"
  rw [List.length_map]
  refine ⟨by unfold big64; simp, by simp [okR]; omega, ?_⟩
  have lrn := get_lt cn
  have c3 : (μ ++ [Cell.lst []])[μ.length]? = some (.lst (([] : List (List Int)).map rwU)) := get_snoc
  have f0 : Fr μ (μ ++ [Cell.lst []]) := Fr.refl.snoc
  generalize μ ++ [Cell.lst []] = μ1 at c3 f0
  refine for_rng (2 * M.mv.length) (fun i s' μ' => ∃ (x4 x5 x6 : Option U) (R : List (List Int)), s' = [some (mU M), some (.ref rn), some (.int (M.mv.length : Nat)), some (.ref μ.length), x4, x5, x6] ∧ Fr μ μ' ∧ μ'[μ.length]? = some (.lst (R.map rwU)) ∧ R.length = i ∧ ∀ r ∈ R, r.length = M.L ∧ ∀ t ∈ r, -1 ≤ t ∧ t < 2 * (M.mv.length : Int)) (by omega) (by omega) ⟨_, _, _, [], rfl, f0, c3, rfl, fun r h => by simp at h⟩ ?_ ?_
  · rintro i s' μ2 hi ⟨x4, x5, x6, R, rfl, f2, d3, hRl, hR⟩
    refine ⟨_, rfl, ?_⟩
    walk_at "gos"
    refine w_iseqS ?_
    walk_at "gos"
    rw [w_ixM1]
    walk_at "gos"
    have hmod : ((i : Nat) : Int).fmod (max 1 (M.mv.length : Nat)) = ((i % M.mv.length : Nat) : Int) := by
      rw [show max (1 : Int) ((M.mv.length : Nat) : Int) = ((M.mv.length : Nat) : Int) by omega, Int.fmod_eq_emod_of_nonneg _ (Int.natCast_nonneg _)]
      exact (Int.natCast_emod i M.mv.length).symm
    have hp : 0 < M.mv.length := by omega
    have hml := Nat.mod_lt i hp
    generalize hmm : i % M.mv.length = m at hmod hml
    rw [hmod]
    refine ⟨by omega, ?_⟩
    rw [Dg.atI_nat, List.getElem?_map, List.getElem?_eq_getElem hml]
    refine ⟨_, rfl, M.mv[m].map U.int, rfl, fun j hj => ?_⟩
    obtain ⟨hrl, hrt⟩ := ok.row _ (List.getElem_mem hml)
    generalize M.mv[m] = row at hrl hrt hj
    have c5 : (μ2 ++ [Cell.lst []])[μ2.length]? = some (.lst (([] : List Int).map U.int)) := get_snoc
    have f5 : Fr μ2 (μ2 ++ [Cell.lst []]) := Fr.refl.snoc
    have lm2 := get_lt d3
    generalize hμ3 : μ2 ++ [Cell.lst []] = μ3 at c5 f5
    refine for_it (row.map U.int) (fun k s' μ' => ∃ (x6 : Option U) (w : List Int), s' = [some (mU M), some (.ref rn), some (.int (M.mv.length : Nat)), some (.ref μ.length), some (.int (i : Nat)), some (.ref μ2.length), x6] ∧ Fr μ2 μ' ∧ μ'[μ2.length]? = some (.lst (w.map U.int)) ∧ w.length = k ∧ ∀ t ∈ w, -1 ≤ t ∧ t < 2 * (M.mv.length : Int)) (by simp; omega) ⟨_, [], rfl, f5, c5, rfl, fun t h => by simp at h⟩ (fun k s' μ' _ => hj μ' rfl k) ?_ ?_
    · rintro k s' μ4 hk ⟨x6, w, rfl, f4, d5, hw, hwt⟩
      have hk' : k < row.length := by simpa using hk
      rw [List.getElem_map]
      refine ⟨_, rfl, ?_⟩
      have ht := hrt _ (List.getElem_mem hk')
      generalize row[k] = t at ht
      have fin : ∀ {t' : Int}, -1 ≤ t' → t' < 2 * (M.mv.length : Int) → Dg.wpS (sExpr (fMtL gAppend (fVar 5) (aCons (fVar 6) aNil)) [some (mU M), some (.ref rn), some (.int (M.mv.length : Nat)), some (.ref μ.length), some (.int (i : Nat)), some (.ref μ2.length), some (.int t')] μ4)
          ⟨fun s' μ' => ∃ (x6 : Option U) (w : List Int), s' = [some (mU M), some (.ref rn), some (.int (M.mv.length : Nat)), some (.ref μ.length), some (.int (i : Nat)), some (.ref μ2.length), x6] ∧ Fr μ2 μ' ∧ μ'[μ2.length]? = some (.lst (w.map U.int)) ∧ w.length = k + 1 ∧ ∀ t ∈ w, -1 ≤ t ∧ t < 2 * (M.mv.length : Int), fun _ _ => False, fun _ _ => False, fun _ _ => False, fun _ _ _ => False⟩ := by
        intro t' h1 h2
        walk_at "gos"
        refine ⟨_, lstU_L d5, ?_⟩
        rw [w_append d5 (by rw [List.length_map]; simp only [lim]; omega)]
        refine ⟨_, w ++ [t'], rfl, f4.put (Nat.le_refl _), by rw [get_set d5]; simp, by simp [hw], fun x hx => ?_⟩
        rcases List.mem_append.mp hx with hx | hx
        · exact hwt x hx
        · simp at hx; subst hx; exact ⟨h1, h2⟩
      generalize sExpr (fMtL gAppend (fVar 5) (aCons (fVar 6) aNil)) = T at fin ⊢
      have lifted : ∀ {t' : Int} {D' : Dn}, -1 ≤ t' → t' < 2 * (M.mv.length : Int) → (∀ s' μ', (∃ (x6 : Option U) (w : List Int), s' = [some (mU M), some (.ref rn), some (.int (M.mv.length : Nat)), some (.ref μ.length), some (.int (i : Nat)), some (.ref μ2.length), x6] ∧ Fr μ2 μ' ∧ μ'[μ2.length]? = some (.lst (w.map U.int)) ∧ w.length = k + 1 ∧ ∀ t ∈ w, -1 ≤ t ∧ t < 2 * (M.mv.length : Int)) → D'.nx s' μ') →
          Dg.wpS (T [some (mU M), some (.ref rn), some (.int (M.mv.length : Nat)), some (.ref μ.length), some (.int (i : Nat)), some (.ref μ2.length), some (.int t')] μ4) D' := fun h1 h2 h3 =>
        wpS.mono (fin h1 h2) (fun s μ h => h3 s μ h) (fun _ _ h => h.elim) (fun _ _ h => h.elim) (fun _ _ h => h.elim) (fun _ _ _ h => h.elim)
      walk_at "gos"
      by_cases h0 : 0 ≤ t
      · rw [if_pos (by simp [h0])]
        rw [w_lenL d5, List.length_map, hw]
        try walk_at "gos"
        have cn4 := f4.at_ _ _ (f2.at_ _ _ cn)
        rw [w_ixL cn4, show ((k : Nat) : Int) + ((i : Nat) : Int) = ((k + i : Nat) : Int) by omega, Dg.atI_nat, List.getElem?_map, List.getElem?_eq_getElem (by omega : k + i < nums.length)]
        refine ⟨_, rfl, ?_⟩
        walk_at "gos"
        split
        · exact lifted (by omega) (by omega) fun s' μ' h => h
        · exact lifted (by omega) (by omega) fun s' μ' h => h
      · rw [if_neg (by simp; omega)]
        exact lifted (by omega) (by omega) fun s' μ' h => h
    · rintro s' μ4 ⟨x6, w, rfl, f4, d5, hw, hwt⟩
      rw [List.length_map] at hw
      try walk_at "gos"
      have d3' := f4.at_ _ _ d3
      refine ⟨_, lstU_L d3', ?_⟩
      rw [w_tupleL d5, w_append d3' (by rw [List.length_map]; simp only [lim]; omega)]
      refine ⟨_, _, _, R ++ [w], rfl, (f2.trans f4).put (Nat.le_refl _), by rw [get_set d3']; simp [rwU], by simp [hRl], fun r hr => ?_⟩
      rcases List.mem_append.mp hr with hr | hr
      · exact hR r hr
      · simp at hr; subst hr; exact ⟨by omega, hwt⟩
  · rintro s' μ2 ⟨x4, x5, x6, R, rfl, f2, d3, hRl, hR⟩
    walk_at "gos"
    rw [w_ixM0, w_tupleL d3]
    rw [w_ixM2]
    try walk_at "gos"
    rw [w_ixM2]
    rw [w_addT (by simp only [List.length_map, lim]; have := ok.ac; omega)]
    have := q ⟨M.L, R, M.ac ++ M.ac⟩ μ2 ⟨by simp [ok.ac, hRl]; omega, fun r hr => by
      obtain ⟨a, b⟩ := hR r hr
      exact ⟨a, fun t ht => by have := b t ht; simp only [hRl]; omega⟩⟩ rfl hRl f2
    unfold mU at this
    rw [List.map_append] at this
    exact this
end Le
namespace Le
theorem pus_ints : ∀ xs : List Int, pus (xs.map U.int) = true
  | [] => rfl
  | x :: xs => by rw [List.map_cons]; simp [pus, pu, pus_ints xs]
theorem pus_bls : ∀ xs : List Bool, pus (xs.map U.bl) = true
  | [] => rfl
  | x :: xs => by rw [List.map_cons]; simp [pus, pu, pus_bls xs]
theorem pus_rows : ∀ xs : List (List Int), pus (xs.map fun r => U.tup (r.map U.int)) = true
  | [] => rfl
  | x :: xs => by rw [List.map_cons]; simp [pus, pu, pus_rows xs, pus_ints]
theorem dps_ints : ∀ xs : List Int, dps (xs.map U.int) = 0
  | [] => rfl
  | x :: xs => by rw [List.map_cons]; simp [dps, dp, dps_ints xs]
theorem dps_bls : ∀ xs : List Bool, dps (xs.map U.bl) = 0
  | [] => rfl
  | x :: xs => by rw [List.map_cons]; simp [dps, dp, dps_bls xs]
theorem dps_rows : ∀ xs : List (List Int), dps (xs.map fun r => U.tup (r.map U.int)) ≤ 1
  | [] => Nat.zero_le _
  | x :: xs => by
    rw [List.map_cons]
    simp only [dps, dp, dps_ints]
    have := dps_rows xs
    omega
theorem eq_mc {L : Nat} {O : List (List Int)} {B : List Bool} {μ : Mem} : eqU (mcU L O B) (mcU L O B) μ = some true := by
  refine eq_self ?_ ?_
  · unfold mcU
    simp [pu, pus, pus_rows, pus_bls]
  · unfold mcU
    simp only [dp, dps, dps_bls]
    have := dps_rows O
    omega
theorem fst0 {M : Mc} (ok : M.ok) (w : List Nat) : lng M.mv M.ac (fst M) w = lng M.mv M.ac 0 w := by
  rcases lng_fst (M := M) w with h | h
  · exact h
  · have hac : M.ac = [] := List.length_eq_zero_iff.mp (by rw [ok.ac, h]; rfl)
    have e1 : fst M = -1 := by unfold fst; rw [h]; rfl
    rw [e1, lng_neg (by decide), h, hac]
    cases w with
    | nil => rfl
    | cons a w => rw [lng_cons]; exact (lng_neg (by simp [Le.stp]) w).symm
def lwF (C : Calls) : FS := (sSeq (sAsg (.one 3) (fDef 1 (C 11) (aCons (fVar 2) aNil)))
    (sSeq (sIf (tOr' (tNt (tst (fIsi "tuple" (fVar 3)))) (tOr' (tstB (fOp uNe (fCall bLen (aCons (fVar 3) aNil)) (fC (.int 3)))) (tstB (fOp uNotN (fDef 1 (C 10) (aCons (fVar 3) aNil)) (fC .non))))) (sRet (fC (.bl false))) sNext)
    (sSeq (sFor (iSeq (fOp ixU (fVar 3) (fC (.int 2)))) (.one 4) (sIf (tNt (tst (fIsi "bool" (fVar 4)))) (sRet (fC (.bl false))) sNext))
    (sSeq (sIf (tOr' (tstB (fOp uNe (fVar 3) (fDef 1 (C 20) (aCons (fVar 2) aNil)))) (tNt (tst (fDef 2 (C 18) (aCons (fVar 2) (aCons (fVar 3) aNil)))))) (sRet (fC (.bl false))) sNext)
    (sRet (fOp uEq (fDef 1 (C 11) (aCons (fVar 3) aNil)) (fVar 3)))))))
def lwE (C : Calls) : FS := (sSeq (sIf (tstB (fOp uEq (fOp uMod (fOp ixU (fVar 1) (fC (.int 3))) (fC (.int 7))) (fC (.int 0)))) (sAsg (.one 2) (fTup (aCons (fOp ixU (fVar 2) (fC (.int 0))) (aCons (fOp ixU (fVar 2) (fC (.int 1))) (aCons (fCall bTuple (aCons (fLc (iRg1 (fCall bLen (aCons (fOp ixU (fVar 2) (fC (.int 1))) aNil))) [5] (.one 5) tAll (fOp uEq (fVar 5) (fOp uMod (fOp ixU (fVar 1) (fC (.int 4))) (fC (.int 11))))) aNil)) aNil))))) sNext)
    (lwF C))
def lwD (C : Calls) : FS := (sSeq (sIf (tstB (fOp uEq (fOp uMod (fOp ixU (fVar 1) (fC (.int 3))) (fC (.int 3))) (fC (.int 0)))) (sAsg (.one 2) (fDef 2 (C 21) (aCons (fVar 2) (aCons (fSl (fVar 1) (oSome (fC (.int 60))) oNone) aNil)))) sNext)
    (lwE C))
def lwC (C : Calls) : FS := (sSeq (sIf (tAn (tstB (fOp uEq (fOp uMod (fOp ixU (fVar 1) (fC (.int 5))) (fC (.int 12))) (fC (.int 5)))) (tstB (fOp uNe (fDef 1 (C 11) (aCons (fDef 1 (C 22) (aCons (fC (.int 300)) aNil)) aNil)) (fDef 1 (C 22) (aCons (fC (.int 300)) aNil))))) (sRet (fC (.bl false))) sNext)
    (lwD C))
theorem lw_is (C : Calls) : b_law C = (sSeq (sAsg (.one 1) (fDef 2 (C 12) (aCons (fVar 0) (aCons (fC (.int 200)) aNil))))
    (sSeq (sAsg (.one 2) (fDef 5 (C 13) (aCons (fVar 1) (aCons (fC (.int 20)) (aCons (fOp ixU (fLst (aCons (fOp uMod (fOp ixU (fVar 1) (fC (.int 0))) (fC (.int 5))) (aCons (fC (.int 9)) aNil))) (fCall bInt (aCons (fOp uEq (fOp uMod (fOp ixU (fVar 1) (fC (.int 5))) (fC (.int 10))) (fC (.int 0))) aNil))) (aCons (fOp uMod (fOp ixU (fVar 1) (fC (.int 1))) (fC (.int 11))) (aCons (fOp uMod (fOp ixU (fVar 1) (fC (.int 2))) (fC (.int 4))) aNil)))))))
    (lwC C))) := rfl
theorem w_lenM {M : Mc} {μ : Mem} {Q : U → Mem → Prop} {E : Str → Mem → Prop} : wpE (bLen [mU M] μ) Q E = Q (.int 3) μ := propext ⟨fun h => h, fun h => h⟩
theorem w_nn {μ : Mem} {Q : U → Mem → Prop} {E : Str → Mem → Prop} : wpE (uNotN .non .non μ) Q E = Q (.bl false) μ := propext ⟨fun h => h, fun h => h⟩
theorem lwF_s {C : Calls} (h10 : CheckS (C 10)) (h11 : LeastMS (C 11)) (h18 : AlikeS (C 18)) (h20 : LawLeastS (C 20)) {M : Mc} (ok : M.ok) (hL : M.L ≤ 20) (hn : M.mv.length ≤ 40) {x0 x1 x3 x4 x5 : Option U} {μ : Mem} {D : Dn} (q : ∀ μ', D.rt (.bl true) μ') :
    Dg.wpS (lwF C [x0, x1, some (mU M), x3, x4, x5] μ) D := by
  have hmul : M.mv.length * M.L ≤ 40 * 20 := Nat.mul_le_mul hn hL
  unfold lwF
  walk_at "gos"
  refine h11.ap (mcU_of ok (by omega) (by omega) (by omega)) fun O B μ1 f1 can hol => ?_
  have wfN := can.wf
  have okN : (⟨M.L, O, B⟩ : Mc).ok := ⟨wfN.ac, wfN.row⟩
  have e0 : mcU M.L O B = mU ⟨M.L, O, B⟩ := rfl
  have hty : tyU μ1 (mcU M.L O B) = some "tuple" := rfl
  generalize hN : (⟨M.L, O, B⟩ : Mc) = N at okN e0
  have eL : N.L = M.L := by rw [← hN]
  have eO : N.mv = O := by rw [← hN]
  have eB : N.ac = B := by rw [← hN]
  rw [e0] at hty ⊢
  try walk_at "gos"
  rw [hty]
  refine ⟨_, rfl, true, rfl, ?_⟩
  rw [if_neg (by decide), w_lenM]
  refine ⟨true, rfl, ?_⟩
  rw [if_neg (by decide)]
  have e1 : mU N = gU N.L N.mv N.ac := rfl
  rw [e1]
  have hall : N.mv.all (okRow N.L N.mv.length) = true := List.all_eq_true.mpr fun r hr => by
    obtain ⟨a, b⟩ := okN.row r hr
    unfold okRow
    simp only [Bool.and_eq_true, decide_eq_true_eq, List.all_eq_true]
    exact ⟨by omega, fun t ht => b t ht⟩
  refine h10.good (by rw [eO]; omega) (fun r hr => by have := (okN.row r hr).1; omega) ⟨⟨by omega, by omega⟩, by rw [eO]; omega, okN.ac, hall⟩ fun μ3 f3 => ?_
  rw [w_nn, ← e1]
  refine ⟨false, rfl, ?_⟩
  rw [if_neg (by decide)]
  refine w_iseqS ?_
  walk_at "gos"
  rw [w_ixM2]
  refine ⟨_, rfl, fun j hj => ?_⟩
  refine for_it (N.ac.map U.bl) (fun k s' μ' => ∃ x4 : Option U, s' = [x0, x1, some (mU M), some (mU N), x4, x5] ∧ Fr μ μ') (by rw [List.length_map, okN.ac, eO]; omega) ⟨_, rfl, f1.trans f3⟩ (fun k s' μ' _ => hj μ' rfl k) ?_ ?_
  · rintro k s' μ4 hk ⟨x4, rfl, f4⟩
    rw [List.getElem_map]
    refine ⟨_, rfl, ?_⟩
    walk_at "gos"
    refine ⟨_, rfl, true, rfl, ?_⟩
    rw [if_neg (by decide)]
    exact ⟨_, rfl, f4⟩
  · rintro s' μ4 ⟨x4, rfl, f4⟩
    walk_at "gos"
    refine h20.ap ok (by omega) (by omega) fun O2 B2 μ5 f5 can2 => ?_
    obtain ⟨rfl, rfl⟩ := can2.uniq can
    have e3 : mcU M.L O2 B2 = mU N := e0
    have eqN : ∀ μ', eqU (mU N) (mU N) μ' = some true := fun μ' => by rw [mU_mc]; exact eq_mc
    rw [e3, eqN]
    refine ⟨true, rfl, ?_⟩
    rw [if_neg (by decide)]
    have hlng : ∀ w, lng N.mv N.ac 0 w = lng M.mv M.ac 0 w := fun w => by rw [eO, eB]; exact can.lang w
    have hnn : (M.mv.length + 1) * (N.mv.length + 1) ≤ 41 * 41 := Nat.mul_le_mul (by omega) (by rw [eO]; omega)
    have hnl : ((M.mv.length + 1) * (N.mv.length + 1)) * M.L ≤ (41 * 41) * 20 := Nat.mul_le_mul hnn hL
    refine h18.ap ok okN eL.symm (by omega) (by omega) (by rw [eO]; omega) (by omega) ⟨fst_plc M, fst_plc N, fun w => by rw [fst0 ok, fst0 okN, hlng]⟩ fun μ6 f6 => ?_
    refine ⟨true, rfl, ?_⟩
    rw [if_neg (by decide)]
    have hmul2 : N.mv.length * N.L ≤ 40 * 20 := Nat.mul_le_mul (by rw [eO]; omega) (by omega)
    refine h11.ap (mcU_of okN (by omega) (by rw [eO]; omega) (by omega)) fun O3 B3 μ7 f7 can3 _ => ?_
    have hΛ : lng N.mv N.ac 0 = lng M.mv M.ac 0 := funext hlng
    rw [hΛ, eL] at can3
    obtain ⟨rfl, rfl⟩ := can3.uniq can2
    rw [eL]
    refine ⟨true, ?_, q μ7⟩
    rw [e3, eqN]
end Le
namespace Le
/-- the numbers are where they were -/
structure Nm (r : Nat) (nums : List Int) (μ : Mem) : Prop where
  c : μ[r]? = some (.lst (nums.map U.int))
  n : nums.length = 200
  p : ∀ x ∈ nums, 0 ≤ x
theorem Nm.fr {r : Nat} {nums : List Int} {μ μ' : Mem} (h : Nm r nums μ) (f : Fr μ μ') : Nm r nums μ' := ⟨f.at_ _ _ h.c, h.n, h.p⟩
theorem Nm.snoc {r : Nat} {nums : List Int} {μ : Mem} {c : Cell} (h : Nm r nums μ) : Nm r nums (μ ++ [c]) := h.fr Fr.refl.snoc
theorem Nm.rd {r : Nat} {nums : List Int} {μ : Mem} {k : Nat} {Q : U → Mem → Prop} {E : Str → Mem → Prop} (h : Nm r nums μ) (hk : k < 200) (q : ∀ x : Int, Q (.int x) μ) : wpE (ixU (.ref r) (.int k) μ) Q E := by
  rw [w_ixL h.c]
  obtain ⟨a, e, m⟩ := Dg.atI_in (xs := nums.map U.int) (i := (k : Int)) (by omega) (by rw [List.length_map, h.n]; omega)
  obtain ⟨z, _, rfl⟩ := List.mem_map.mp m
  exact ⟨_, e, q z⟩
theorem w_md {d a : Int} {μ : Mem} {Q : U → Mem → Prop} {E : Str → Mem → Prop} (hd : d ≠ 0) (q : Q (.int (a.fmod d)) μ) : wpE (uMod (.int a) (.int d) μ) Q E := by
  walk_at "go"
  exact ⟨hd, q⟩
theorem lwE_s {C : Calls} (h10 : CheckS (C 10)) (h11 : LeastMS (C 11)) (h18 : AlikeS (C 18)) (h20 : LawLeastS (C 20)) {M : Mc} (ok : M.ok) (hL : M.L ≤ 20) (hn : M.mv.length ≤ 40) {r : Nat} {nums : List Int} {x0 x3 x4 x5 : Option U} {μ : Mem} {D : Dn} (nm : Nm r nums μ) (q : ∀ μ', D.rt (.bl true) μ') :
    Dg.wpS (lwE C [x0, some (.ref r), some (mU M), x3, x4, x5] μ) D := by
  have fin := fun {M : Mc} (ok : M.ok) (hL : M.L ≤ 20) (hn : M.mv.length ≤ 40) x3 x4 x5 μ => @lwF_s C h10 h11 h18 h20 M ok hL hn x0 (some (.ref r)) x3 x4 x5 μ D q
  unfold lwE
  generalize lwF C = T at fin ⊢
  walk_at "gos"
  refine nm.rd (k := 3) (by decide) fun x => ?_
  refine w_md (by decide) ?_
  refine ⟨_, Lw.eq_int, ?_⟩
  by_cases h7 : x.fmod 7 = 0
  · rw [if_pos (by simp [h7]), w_ixM0]
    rw [w_ixM1]
    rw [w_ixM1]
    rw [w_lenT, List.length_map]
    refine ⟨_, rfl, by simp [okR]; omega, ?_⟩
    rw [Int.toNat_natCast]
    obtain ⟨z, hz⟩ : ∃ z : Int, atI (nums.map U.int) (4 : Int) = some (.int z) := by
      obtain ⟨a, e, m⟩ := Dg.atI_in (xs := nums.map U.int) (i := (4 : Int)) (by omega) (by rw [List.length_map, nm.n]; omega)
      obtain ⟨z, _, rfl⟩ := List.mem_map.mp m
      exact ⟨z, e⟩
    refine lc_fm (List.range M.mv.length) (fun i => U.int ((i : Nat) : Int)) (fun _ => true) (fun i => U.bl (decide (((i : Nat) : Int) = z.fmod 11))) (by simp; omega) (fun i acc => ?_) (fun i hi acc => ?_) ?_
    · rw [item_rng]
      by_cases h : i < M.mv.length
      · rw [if_pos h, List.getElem?_map, List.getElem?_range h]; simp
      · rw [if_neg h, List.getElem?_eq_none (by simp; omega)]
    · refine ⟨_, rfl, ?_⟩
      walk_at "gos"
      intro _
      rw [w_ixL (get_snoc_lt nm.c)]
      refine ⟨_, hz, ?_⟩
      refine w_md (by decide) ?_
      exact ⟨_, Lw.eq_int, rfl, rfl⟩
    rw [List.filter_eq_self.mpr (fun _ _ => rfl), w_tupleL get_snoc]
    have := fin (M := ⟨M.L, M.mv, (List.range M.mv.length).map fun i => decide (((i : Nat) : Int) = z.fmod 11)⟩) ⟨by simp, ok.row⟩ hL hn x3 x4 x5 (μ ++ [Cell.lst ((List.range M.mv.length).map fun i => U.bl (decide (((i : Nat) : Int) = z.fmod 11)))])
    unfold mU at this
    rw [List.map_map] at this
    exact this
  · rw [if_neg (by simp [h7])]
    exact fin ok hL hn _ _ _ _
theorem lwD_s {C : Calls} (h10 : CheckS (C 10)) (h11 : LeastMS (C 11)) (h18 : AlikeS (C 18)) (h20 : LawLeastS (C 20)) (h21 : DoubledS (C 21)) {M : Mc} (ok : M.ok) (hL : M.L ≤ 20) (hn : M.mv.length ≤ 20) {r : Nat} {nums : List Int} {x0 x3 x4 x5 : Option U} {μ : Mem} {D : Dn} (nm : Nm r nums μ) (q : ∀ μ', D.rt (.bl true) μ') :
    Dg.wpS (lwD C [x0, some (.ref r), some (mU M), x3, x4, x5] μ) D := by
  have fin := fun {M : Mc} (ok : M.ok) (hL : M.L ≤ 20) (hn : M.mv.length ≤ 40) x3 x4 x5 μ nm => @lwE_s C h10 h11 h18 h20 M ok hL hn r nums x0 x3 x4 x5 μ D nm q
  unfold lwD
  generalize lwE C = T at fin ⊢
  walk_at "gos"
  refine nm.rd (k := 3) (by decide) fun x => ?_
  refine w_md (by decide) ?_
  refine ⟨_, Lw.eq_int, ?_⟩
  by_cases h7 : x.fmod 3 = 0
  · rw [if_pos (by simp [h7])]
    try walk_at "gos"
    rw [w_slL nm.c, cutU_drop (by decide), ← List.map_drop]
    refine h21.ap ok hL hn get_snoc (by rw [List.length_drop, nm.n]; decide) fun M' μ' ok' e1 e2 f' => ?_
    exact fin ok' (by omega) (by omega) _ _ _ _ (nm.fr (Fr.refl.snoc.trans f'))
  · rw [if_neg (by simp [h7])]
    exact fin ok hL (by omega) _ _ _ _ nm
theorem lwC_s {C : Calls} (h10 : CheckS (C 10)) (h11 : LeastMS (C 11)) (h18 : AlikeS (C 18)) (h20 : LawLeastS (C 20)) (h21 : DoubledS (C 21)) (h22 : LineS (C 22)) {M : Mc} (ok : M.ok) (hL : M.L ≤ 20) (hn : M.mv.length ≤ 20) {r : Nat} {nums : List Int} {x0 x3 x4 x5 : Option U} {μ : Mem} {D : Dn} (nm : Nm r nums μ) (q : ∀ μ', D.rt (.bl true) μ') :
    Dg.wpS (lwC C [x0, some (.ref r), some (mU M), x3, x4, x5] μ) D := by
  have fin := fun μ nm => @lwD_s C h10 h11 h18 h20 h21 M ok hL hn r nums x0 x3 x4 x5 μ D nm q
  unfold lwC
  generalize lwD C = T at fin ⊢
  walk_at "gos"
  refine nm.rd (k := 5) (by decide) fun x => ?_
  refine w_md (by decide) ?_
  refine ⟨_, Lw.eq_int, ?_⟩
  by_cases h7 : x.fmod 12 = 5
  · rw [if_pos (by simp [h7])]
    try walk_at "gos"
    refine h22.ap fun μ1 f1 => ?_
    refine h11.ap (mcU_of line_ok (by decide) (by rw [line_len]; decide) (by rw [line_len]; decide)) fun O B μ2 f2 can _ => ?_
    refine h22.ap fun μ3 f3 => ?_
    obtain ⟨rfl, rfl⟩ := Canon.uniq can line_canon
    refine ⟨true, ?_, ?_⟩
    · rw [mU_mc]; exact eq_mc
    · rw [if_neg (by decide)]
      exact fin μ3 (nm.fr ((f1.trans f2).trans f3))
  · rw [if_neg (by simp [h7])]
    try walk_at "gos"
    exact fin μ nm
theorem law_ok {C : Calls} (h12 : NumsS (C 12)) (h13 : LawMachineS (C 13)) (h10 : CheckS (C 10)) (h11 : LeastMS (C 11)) (h18 : AlikeS (C 18)) (h20 : LawLeastS (C 20)) (h21 : DoubledS (C 21)) (h22 : LineS (C 22)) {ns : List Int} (h : ns.length ≤ 63) : Yes (runDef 6 (b_law C) [.frl (ns.map U.int)] []) := by
  refine Yes.of ?_
  rw [lw_is]
  have fin := fun {M : Mc} (ok : M.ok) (hL : M.L ≤ 20) (hn : M.mv.length ≤ 20) {r nums} x0 x3 x4 x5 μ D nm q => @lwC_s C h10 h11 h18 h20 h21 h22 M ok hL hn r nums x0 x3 x4 x5 μ D nm q
  generalize lwC C = T at fin ⊢
  walk_at "gos"
  refine h12.ap h (by decide) (by decide) fun nums μ1 r hn hx f1 l1 c1 => ?_
  have nm : Nm r nums μ1 := ⟨c1, by omega, fun x m => (hx x m).1⟩
  have hne : nums ≠ [] := fun e => by rw [e] at hn; simp at hn
  refine nm.rd (k := 0) (by decide) fun x0 => ?_
  refine w_md (by decide) ?_
  refine nm.snoc.rd (k := 5) (by decide) fun x5 => ?_
  refine w_md (by decide) ?_
  refine ⟨_, Lw.eq_int, ?_⟩
  obtain ⟨L, eL, hL⟩ : ∃ L : Nat, atI [U.int (x0.fmod 5), .int 9] (if decide (x5.fmod 10 = 0) = true then 1 else 0) = some (.int ((L : Nat) : Int)) ∧ L ≤ 20 := by
    obtain ⟨a1, a2⟩ := Dg.fmod_in (x := x0) (m := 5) (by decide)
    obtain ⟨k, hk⟩ := Int.eq_ofNat_of_zero_le a1
    by_cases h5 : x5.fmod 10 = 0
    · rw [if_pos (by simp [h5])]
      exact ⟨9, rfl, by decide⟩
    · rw [if_neg (by simp [h5]), hk]
      exact ⟨k, rfl, by omega⟩
  rw [w_ixL get_snoc]
  refine ⟨_, eL, ?_⟩
  refine nm.snoc.rd (k := 1) (by decide) fun x1 => ?_
  refine w_md (by decide) ?_
  refine nm.snoc.rd (k := 2) (by decide) fun x2 => ?_
  refine w_md (by decide) ?_
  obtain ⟨b1, b2⟩ := Dg.fmod_in (x := x1) (m := 11) (by decide)
  obtain ⟨S, hS⟩ := Int.eq_ofNat_of_zero_le b1
  rw [hS]
  refine h13.ap nm.snoc.c hne nm.p (by omega) (by omega) fun M μ2 ok e1 e2 f2 => ?_
  exact fin ok (by omega) (by omega) _ _ _ _ _ _ (nm.snoc.fr f2) fun μ' => rfl
end Le
namespace Le
theorem call_law (k : Nat) : call (k + 9) 23 = runDef 6 (b_law (call (k + 8))) := rfl
theorem law_t (k : Nat) {ns : List Int} (h : ns.length ≤ 63) : Yes (call (k + 9) 23 [.frl (ns.map U.int)] []) := by
  have h12 : ∀ k, NumsS (call (k + 1) 12) := fun k => nums_s
  have h13 : ∀ k, LawMachineS (call (k + 1) 13) := fun k => law_machine_s
  have h9 : ∀ k, AreS (call (k + 1) 9) := fun k => are_s
  have h10 : ∀ k, CheckS (call (k + 2) 10) := fun k => check_s (h9 k)
  have h14 : ∀ k, LawNextS (call (k + 1) 14) := fun k => law_next_s
  have h15 : ∀ k, LawEndsS (call (k + 1) 15) := fun k => law_ends_s
  have h16 : ∀ k, LawFirstS (call (k + 1) 16) := fun k => law_first_s
  have h17 : ∀ k, PairsS (call (k + 2) 17) := fun k => pairs_s (h14 k) (h16 k)
  have h18 : ∀ k, AlikeS (call (k + 3) 18) := fun k => alike_s (h15 (k + 1)) (h17 k)
  have h19 : ∀ k, UsefulS (call (k + 1) 19) := fun k => useful_s
  have h20 : ∀ k, LawLeastS (call (k + 2) 20) := fun k => law_least_s (h19 k)
  have h21 : ∀ k, DoubledS (call (k + 1) 21) := fun k => doubled_s
  have h22 : ∀ k, LineS (call (k + 1) 22) := fun k => line_s
  rw [call_law]
  exact law_ok (C := call (k + 8)) (h12 (k + 7)) (h13 (k + 7)) (h10 (k + 6)) (leastm_c k) (h18 (k + 5)) (h20 (k + 6)) (h21 (k + 7)) (h22 (k + 7)) h
end Le
theorem law_true (ns : List Int) (h : ns.length ≤ 63) : ∃ μ, call 189 23 [.frl (ns.map U.int)] [] = .ok (.bl true) μ := (Le.law_t 180 h).ap
end Lw
open PySem PySem.W PySem.Calls PyProof.Rows
set_option maxRecDepth 100000 in
set_option maxHeartbeats 0 in
theorem PySem.Challenge.cw_doppelganger_k27_least_machines_holds : PySem.Challenge.rw_doppelganger_k27_least_machines.Holds := by
  w_on; o_law
  refine HandSHeadRun.head_any (r := OpenLaw.row PySem.Challenge.rw_doppelganger_k27_least_machines) (q := view (OpenLaw.row PySem.Challenge.rw_doppelganger_k27_least_machines).prog [29]) (H := Lw.hk) (ob := Lw.ob) (M := 6000) (loose := Lw.hloose) (d := HandSHeadRun.topDef (OpenLaw.row PySem.Challenge.rw_doppelganger_k27_least_machines).prog 29) (kwd := []) Lw.ob_eq
    (by kernel_rfl) (fun s => by kernel_rfl) Lw.run (by kernel_rfl) (by kernel_rfl) (by kernel_rfl) (by rfl) (by first | assumption | decide +kernel) (by decide +kernel) ⟨rfl, rfl, rfl, rfl, rfl, by decide +kernel⟩ ?hw ?hc
  case hw => w_witness2
  case hc =>
    refine Dg.walk_dg (l := PySem.Challenge.rw_doppelganger_k27_least_machines) (n := 63) (k := 189 + 41) (x := "script") (CX := fun w => L2.CX (PySem.Challenge.rw_doppelganger_k27_least_machines).prog w) rfl (by decide) (by kernel_rfl) (by decide) (fun w H s e s2 z => Dg.cx_none H s e s2 z) ?F
    intro w mg fa h Y G hmg0
    obtain ⟨K, KX, c⟩ := Y
    have hmg : mg ("law" : PySem.Str) = some (.ref fa) := by
      have e : (HandSHeadRun.topDef (OpenLaw.row PySem.Challenge.rw_doppelganger_k27_least_machines).prog 29).name = ("law" : PySem.Str) := by kernel_rfl
      rw [← e]
      exact hmg0
    obtain ⟨fd, Fx⟩ := Lw.facts (w := w) KX G c
    have ea := hmg.symm.trans Fx.m23
    cases ea
    exact ⟨K, fd 23, Dg.spF K mg 1 (Lw.call 189 23), KX, fun s v => L2.FunD.bindsA (ps := ["script"]) Fx.F23 (fun _ _ _ _ _ _ us hl => match us, hl with | [_], _ => rfl) s [v] rfl, fun H a ns hl ho hS => Dg.end_of (Lw.law_true ns hl) ho hS, fun base _ _ => (Lw.tab Fx 189).G23⟩
