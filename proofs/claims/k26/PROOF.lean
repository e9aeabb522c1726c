import PyProof.Rows.All
import Wide.All
import OpenK.AllK
import Wide.FinOn
import HandS.Deep
import HandS.Defaults
import HandS.Exc
import HandS.ExcIs
import HandS.ExcOwn
import HandS.FStr
import HandS.ForMost
import HandS.Head0
import HandS.Head1
import HandS.Head2
import HandS.HeadEnd
import HandS.HeadHook1
import HandS.HeadHook2
import HandS.HeadHook3
import HandS.IsInst
import HandS.Iter
import HandS.More
import HandS.RaiseMore
import HandS.RevRange
import HandS.SortInts
import HandS.Style
import HandS.TryOnly
import HandS.TupAny
import HandS.TupMul
import HandS.WordsDict
import HandS.WordsExc
import HandS.Zip
import KE.KStateDown
import Lean
import PyProof.ExcBaseAll.ValueError
import PySem.Challenge.RW_doppelganger_k26_machines_checked
set_option Elab.async false
set_option linter.all false
set_option maxRecDepth 100000
set_option maxHeartbeats 0
/-! Dg0: rules that the hand layer lacks: tuples: + with an empty one first, * by any number. -/
namespace Dg
open PySem PySem.Spec PyProof.Rows L2
theorem tuple_addW0 (l b : Addr) (items items2 : Array Value) (n n2 : Nat) (dd dd2 : Option Addr) (sl sl2 : Array (Option Value)) (hc0 : items.isEmpty = true) :
    Meets (Builtin.«tuple.__add__» ⟨[.ref l, .ref b], []⟩) (fun _ R s => s.heap.get? l = some { cls := .type "tuple", dict := dd, data := .seq items n, slots := sl } ∧ s.heap.get? b = some { cls := .type "tuple", dict := dd2, data := .seq items2 n2, slots := sl2 } ∧ R (.ok (.ret (Value.ref b))) s) :=
  .of_wp fun prog w A R s h => by
    obtain ⟨hp, g, d, tk, os⟩ := s
    obtain ⟨hl, hb, h⟩ := h
    have f1 := AutoSeq1.idx_int; have f2 := AutoSeq1.sub_tuple_tuple; have f3 := AutoSeq1.sub_list_list; have f4 := AutoSeq1.sub_tuple_list; have f5 := AutoSeq1.sub_list_tuple
    wp_walk using wpAny_loadPart' hl, wpAny_loadPart' hb
    exact ⟨_, rfl, h⟩
theorem tuple_mulW1 (l : Addr) (items : Array Value) (n : Nat) (dd : Option Addr) (sl : Array (Option Value)) (x : Int) (u : Tok) (c0 : (decide (x < -(2 ^ 63)) || decide (x ≥ 2 ^ 63)) = false) (c1 : (items.isEmpty || x == 1) = true) :
    Meets (Builtin.«tuple.__mul__» ⟨[.ref l, .int x u], []⟩) (fun _ R s => s.heap.get? l = some { cls := .type "tuple", dict := dd, data := .seq items n, slots := sl } ∧ R (.ok (.ret (Value.ref l))) s) :=
  .of_wp fun prog w A R s h => by
    obtain ⟨hp, g, d, tk, os⟩ := s
    obtain ⟨hl, h⟩ := h
    have f1 := AutoSeq1.idx_int
    wp_walk using wpAny_loadPart' hl
    repeat (first
      | (refine wpAny_ite_false (decide_eq_false (by rw [c0]; exact Bool.false_ne_true)) ?_; wp_walk using wpAny_loadPart' hl)
      | (refine wpAny_ite_true c1 ?_; wp_walk using wpAny_loadPart' hl))
    exact ⟨_, rfl, h⟩
theorem tuple_mulW0 (l : Addr) (items : Array Value) (n : Nat) (dd : Option Addr) (sl : Array (Option Value)) (x : Int) (u : Tok) (c0 : (decide (x < -(2 ^ 63)) || decide (x ≥ 2 ^ 63)) = false) (c1 : (items.isEmpty || x == 1) = false) (c2 : (decide (x ≤ 0) || items.isEmpty) = true) :
    Meets (Builtin.«tuple.__mul__» ⟨[.ref l, .int x u], []⟩) (fun _ R s => s.heap.get? l = some { cls := .type "tuple", dict := dd, data := .seq items n, slots := sl } ∧
      R (.ok (.ret (Value.ref s.heap.objs.size))) { s with heap := s.heap.push { cls := Value.type "tuple", data := Data.seq #[] }, toks := s.toks }) :=
  .of_wp fun prog w A R s h => by
    obtain ⟨hp, g, d, tk, os⟩ := s
    obtain ⟨hl, h⟩ := h
    have f1 := AutoSeq1.idx_int
    wp_walk using wpAny_loadPart' hl
    repeat (first
      | (refine wpAny_ite_false (decide_eq_false (by rw [c0]; exact Bool.false_ne_true)) ?_; wp_walk using wpAny_loadPart' hl)
      | (refine wpAny_ite_false (decide_eq_false (by rw [c1]; exact Bool.false_ne_true)) ?_; wp_walk using wpAny_loadPart' hl)
      | (refine wpAny_ite_true c2 ?_; wp_walk using wpAny_loadPart' hl))
    exact ⟨_, rfl, h⟩
section
variable {X : Cx}
theorem op_cat0 : OpR X (binaryOp .Add) (fun x y H Q => ∃ a b ys, x = .ref a ∧ y = .ref b ∧ SqT X.K H a [] ∧ SqT X.K H b ys ∧ Q (.ref b) H) := by
  intro pins s σ H x y v u Q I rx ry h
  obtain ⟨a, b, ys, rfl, rfl, ha, hb, q⟩ := h
  cases rx
  cases ry
  obtain ⟨its, r1, ⟨⟨cls, dd, data, sl⟩, ho, hc, n, hd⟩, _⟩ := I.tuple ha
  obtain ⟨its2, r2, ⟨⟨cls2, dd2, data2, sl2⟩, ho2, hc2, n2, hd2⟩, _⟩ := I.tuple hb
  simp only at hc hd hc2 hd2
  subst hc hd hc2 hd2
  cases r1
  exact concat_meets ⟨_, ho, rfl⟩ ⟨_, ho2, rfl⟩ noFill_tuple_add seq_tuple_add PySem.F.slot_tuple_add PySem.F.entry_tuple_add (PySem.F.args_tuple_add_2 _ _)
    (tuple_addW0 a b _ _ n n2 dd dd2 sl sl2 rfl) ⟨ho, ho2, ⟨.ref b, H, I, rfl, q⟩⟩
theorem op_repT1 : OpR X (binaryOp .Mult) (fun x y H Q => ∃ l k xs, x = .ref l ∧ y = .int k ∧ SqT X.K H l xs ∧ (xs = [] ∨ k = 1) ∧ -(2 ^ 62) ≤ k ∧ k < 2 ^ 62 ∧ Q (.ref l) H) := by
  intro pins s σ H x y v u Q I rx ry h
  obtain ⟨l, k, xs, rfl, rfl, hT, hne, h1, h2, q⟩ := h
  cases rx
  obtain ⟨t, rfl⟩ := ry
  obtain ⟨its, r, ⟨⟨cls, dd, data, sl⟩, ho, hc, n, hd⟩, hs⟩ := I.tuple hT
  simp only at hc hd
  subst hc hd
  have c0 : (decide (k < -(2 ^ 63)) || decide (k ≥ 2 ^ 63)) = false := by
    rw [decide_eq_false (by omega), decide_eq_false (by omega)] <;> rfl
  have c1 : (its.toArray.isEmpty || k == 1) = true := by
    rcases hne with e | e
    · subst e; cases r; rfl
    · subst e; simp
  exact wpAny_binaryOp_repeat_ref (T := "tuple") (U := "int") (by decide) ⟨_, ho, rfl⟩ (fun s' => typeIs_int s' k t) noFill_tuple_mul F.fills_int_mul F.slot_int_rmul repeat_tuple F.slot_int_index.lookup
    (call_meets F.slot_int_rmul (typeIs_int s k t) F.entry_int_rmul (F.args_int_rmul_2 _ _) (int_rmul_tuple k t l its.toArray n dd sl)
      ⟨ho, rfl, ⟨_, ho, rfl⟩, call_meets F.slot_tuple_mul ⟨_, ho, rfl⟩ F.entry_tuple_mul (F.args_tuple_mul_2 _ _) (tuple_mulW1 l its.toArray n dd sl k t c0 c1) ⟨ho, ⟨.ref l, H, I, rfl, q⟩⟩⟩)
theorem op_repT0 : OpR X (binaryOp .Mult) (fun x y H Q => ∃ l k xs, x = .ref l ∧ y = .int k ∧ SqT X.K H l xs ∧ xs ≠ [] ∧ -(2 ^ 62) ≤ k ∧ k ≤ 0 ∧ ∀ p, H p = none → Q (.ref p) (upd H p (.tup []))) := by
  intro pins s σ H x y v u Q I rx ry h
  obtain ⟨l, k, xs, rfl, rfl, hT, hne, h1, h2, q⟩ := h
  cases rx
  obtain ⟨t, rfl⟩ := ry
  obtain ⟨its, r, ⟨⟨cls, dd, data, sl⟩, ho, hc, n, hd⟩, hs⟩ := I.tuple hT
  simp only at hc hd
  subst hc hd
  have hn : its ≠ [] := fun e => hne (by
    have := r.length
    rw [e] at this
    exact List.eq_nil_of_length_eq_zero this)
  have c0 : (decide (k < -(2 ^ 63)) || decide (k ≥ 2 ^ 63)) = false := by
    rw [decide_eq_false (by omega), decide_eq_false (by omega)] <;> rfl
  have hi : its.toArray.isEmpty = false := by
    cases its with
    | nil => exact absurd rfl hn
    | cons a b => rfl
  have c1 : (its.toArray.isEmpty || k == 1) = false := by
    rw [hi, Bool.false_or]
    exact beq_eq_false_iff_ne.mpr (by omega)
  have c2 : (decide (k ≤ 0) || its.toArray.isEmpty) = true := by
    rw [decide_eq_true h2]; rfl
  exact wpAny_binaryOp_repeat_ref (T := "tuple") (U := "int") (by decide) ⟨_, ho, rfl⟩ (fun s' => typeIs_int s' k t) noFill_tuple_mul F.fills_int_mul F.slot_int_rmul repeat_tuple F.slot_int_index.lookup
    (call_meets F.slot_int_rmul (typeIs_int s k t) F.entry_int_rmul (F.args_int_rmul_2 _ _) (int_rmul_tuple k t l its.toArray n dd sl)
      ⟨ho, rfl, ⟨_, ho, rfl⟩, call_meets F.slot_tuple_mul ⟨_, ho, rfl⟩ F.entry_tuple_mul (F.args_tuple_mul_2 _ _) (tuple_mulW0 l its.toArray n dd sl k t c0 c1 c2)
        ⟨ho, ⟨.ref s.heap.objs.size, _, I.laid (t' := s.toks) (o := .tup []) (fun b ob q => Heap.get?_push_of_some _ q) (Nat.le_refl _) ⟨by simp, [], .nil, IsTup.new _ _⟩, rfl, q _ (I.hok.fresh (Nat.le_refl _))⟩⟩⟩)
end
end Dg
/-! Dg1: values, cells, how they lie in the heap, and outcomes. -/
namespace Dg
open PySem PySem.Spec PyProof.Rows L2

/-! ### values and memory of the mirror -/
inductive U where
  | non | bl (b : Bool) | int (i : Int) | str (s : Str) | tup (xs : List U) | ref (i : Nat)
  /-- a list that is never changed (the script) -/
  | frl (xs : List U)
inductive Cell where
  | lst (xs : List U)
  | dct (kvs : List (Key × U))
  /-- a dict that is being walked -/
  | fdc (kvs : List (Key × U))
  /-- a dict whose keys are tuples; one that is being walked -/
  | dtt (kvs : List (List Key × U))
  | fdt (kvs : List (List Key × U))
  /-- an instance of the class: its attributes -/
  | obj (c : Str) (fs : List (Str × U))
abbrev Mem := List Cell
abbrev Slots := List (Option U)
inductive Res (α : Type) where
  | ok (a : α) (m : Mem)
  | ex (c : Str) (m : Mem)
  | bad
def Res.bind {α β : Type} (r : Res α) (k : α → Mem → Res β) : Res β := match r with
  | .ok a m => k a m
  | .ex c m => .ex c m
  | .bad => .bad
inductive Out where
  | nx (s : Slots) (m : Mem)
  | rt (u : U) (m : Mem)
  | bk (s : Slots) (m : Mem)
  | ct (s : Slots) (m : Mem)
  | ex (c : Str) (s : Slots) (m : Mem)
  | bad
abbrev FE := Slots → Mem → Res U
abbrev FT := Slots → Mem → Res Bool
abbrev FA := Slots → Mem → Res (List U)
abbrev FS := Slots → Mem → Out

/-! ### how a value lies -/
/-- a list that stays as it is -/
def FrL (K : PySem.W.Frag) (H : Hp) (a : Addr) (xs : List V) : Prop :=
  (∃ o, H a = some (.frz o (.lst xs))) ∨
    ∃ (o : Obj) (its : Array Value) (n : Nat), K.lookup a = some o ∧ o.cls = .type "list" ∧ o.dict = none ∧ o.data = .seq its n ∧ its.size ≤ sizeLine ∧ Vals xs its.toList
theorem FrL.sq {K : PySem.W.Frag} {H : Hp} {a : Addr} {xs : List V} (h : FrL K H a xs) : SqL K H a xs := by
  rcases h with ⟨o, h⟩ | h
  · exact .inl (.inr ⟨o, h⟩)
  · exact .inr h
mutual
inductive RepV (K : PySem.W.Frag) (H : Hp) (ρ : List Addr) : U → V → Prop
  | non : RepV K H ρ .non .non
  | bl {b : Bool} : RepV K H ρ (.bl b) (.bl b)
  | int {i : Int} : RepV K H ρ (.int i) (.int i)
  | str {s : Str} : PyData.strOk s = true → RepV K H ρ (.str s) (.str s)
  | tup {us : List U} {a : Addr} {vs : List V} : SqT K H a vs → RepVs K H ρ us vs → RepV K H ρ (.tup us) (.ref a)
  | ref {i : Nat} {a : Addr} : ρ[i]? = some a → RepV K H ρ (.ref i) (.ref a)
  | frl {us : List U} {a : Addr} {vs : List V} : FrL K H a vs → RepVs K H ρ us vs → RepV K H ρ (.frl us) (.ref a)
inductive RepVs (K : PySem.W.Frag) (H : Hp) (ρ : List Addr) : List U → List V → Prop
  | nil : RepVs K H ρ [] []
  | cons {u : U} {us : List U} {v : V} {vs : List V} : RepV K H ρ u v → RepVs K H ρ us vs → RepVs K H ρ (u :: us) (v :: vs)
end
/-- tuples and what is locked stay -/
def TX (H H' : Hp) : Prop := (∀ a xs, Rd H a (.tup xs) → Rd H' a (.tup xs)) ∧ ∀ a o u, H a = some (.frz o u) → H' a = some (.frz o u)
theorem TX.refl (H : Hp) : TX H H := ⟨fun _ _ h => h, fun _ _ _ h => h⟩
theorem TX.trans {H H1 H2 : Hp} (a : TX H H1) (b : TX H1 H2) : TX H H2 := ⟨fun x o h => b.1 x o (a.1 x o h), fun x o u h => b.2 x o u (a.2 x o u h)⟩
/-- what may be changed: no tuple, nothing locked -/
def Sft (o : HO) : Prop := (∀ xs, o ≠ .tup xs) ∧ ∀ z u, o ≠ .frz z u
theorem TX.put {H : Hp} {p : Addr} {o : HO} (h : ∀ o', H p = some o' → Sft o') : TX H (upd H p o) := ⟨fun a xs r => by
  rcases r with r | ⟨z, r⟩
  · have ne : a ≠ p := fun e => (h _ (e ▸ r)).1 xs rfl
    exact .inl (by rw [upd_ne ne]; exact r)
  · have ne : a ≠ p := fun e => (h _ (e ▸ r)).2 z _ rfl
    exact .inr ⟨z, by rw [upd_ne ne]; exact r⟩, fun a z u r => by
  have ne : a ≠ p := fun e => (h _ (e ▸ r)).2 z u rfl
  rw [upd_ne ne]; exact r⟩
theorem TX.new {H : Hp} {p : Addr} {o : HO} (h : H p = none) : TX H (upd H p o) := TX.put (fun o' r => by rw [h] at r; cases r)
/-- tuples and locked lists stay: what values need -/
def TV (H H' : Hp) : Prop := (∀ a xs, Rd H a (.tup xs) → Rd H' a (.tup xs)) ∧ ∀ a o xs, H a = some (.frz o (.lst xs)) → H' a = some (.frz o (.lst xs))
theorem TX.tv {H H' : Hp} (t : TX H H') : TV H H' := ⟨t.1, fun a o xs h => t.2 a o _ h⟩
theorem TV.seq {K : PySem.W.Frag} {H H' : Hp} {a : Addr} {xs : List V} (t : TV H H') (h : SqT K H a xs) : SqT K H' a xs := by
  rcases h with h | h
  · exact .inl (t.1 a xs h)
  · exact .inr h
theorem TV.frl {K : PySem.W.Frag} {H H' : Hp} {a : Addr} {xs : List V} (t : TV H H') (h : FrL K H a xs) : FrL K H' a xs := by
  rcases h with ⟨o, h⟩ | h
  · exact .inl ⟨o, t.2 a o _ h⟩
  · exact .inr h
theorem TX.seq {K : PySem.W.Frag} {H H' : Hp} {a : Addr} {xs : List V} (t : TX H H') (h : SqT K H a xs) : SqT K H' a xs := by
  rcases h with h | h
  · exact .inl (t.1 a xs h)
  · exact .inr h
theorem TX.frl {K : PySem.W.Frag} {H H' : Hp} {a : Addr} {xs : List V} (t : TX H H') (h : FrL K H a xs) : FrL K H' a xs := by
  rcases h with ⟨o, h⟩ | h
  · exact .inl ⟨o, t.2 a o _ h⟩
  · exact .inr h
def Ext (ρ ρ' : List Addr) : Prop := ∃ l, ρ' = ρ ++ l
theorem Ext.refl (ρ : List Addr) : Ext ρ ρ := ⟨[], by simp⟩
theorem Ext.trans {a b c : List Addr} (h : Ext a b) (g : Ext b c) : Ext a c := by
  obtain ⟨l, rfl⟩ := h
  obtain ⟨r, rfl⟩ := g
  exact ⟨l ++ r, by simp⟩
theorem Ext.get {ρ ρ' : List Addr} (h : Ext ρ ρ') {i : Nat} {a : Addr} (e : ρ[i]? = some a) : ρ'[i]? = some a := by
  obtain ⟨l, rfl⟩ := h
  have : i < ρ.length := by
    rw [List.getElem?_eq_some_iff] at e
    exact e.1
  rw [List.getElem?_append_left this]
  exact e
theorem Ext.snoc (ρ : List Addr) (p : Addr) : Ext ρ (ρ ++ [p]) := ⟨[p], rfl⟩
section
variable {K : PySem.W.Frag} {H H' : Hp} {ρ ρ' : List Addr}
mutual
theorem RepV.monoV (t : TV H H') (e : Ext ρ ρ') : ∀ {u : U} {v : V}, RepV K H ρ u v → RepV K H' ρ' u v
  | _, _, .non => .non
  | _, _, .bl => .bl
  | _, _, .int => .int
  | _, _, .str h => .str h
  | _, _, .tup h r => .tup (t.seq h) (RepVs.monoV t e r)
  | _, _, .ref h => .ref (e.get h)
  | _, _, .frl h r => .frl (t.frl h) (RepVs.monoV t e r)
theorem RepVs.monoV (t : TV H H') (e : Ext ρ ρ') : ∀ {us : List U} {vs : List V}, RepVs K H ρ us vs → RepVs K H' ρ' us vs
  | _, _, .nil => .nil
  | _, _, .cons h r => .cons (RepV.monoV t e h) (RepVs.monoV t e r)
end
theorem RepV.mono (t : TX H H') (e : Ext ρ ρ') {u : U} {v : V} (h : RepV K H ρ u v) : RepV K H' ρ' u v := h.monoV t.tv e
theorem RepVs.mono (t : TX H H') (e : Ext ρ ρ') {us : List U} {vs : List V} (h : RepVs K H ρ us vs) : RepVs K H' ρ' us vs := h.monoV t.tv e
theorem RepVs.length : ∀ {us : List U} {vs : List V}, RepVs K H ρ us vs → us.length = vs.length
  | _, _, .nil => rfl
  | _, _, .cons _ r => congrArg (· + 1) (RepVs.length r)
theorem RepVs.get : ∀ {us : List U} {vs : List V} {i : Nat} {u : U}, RepVs K H ρ us vs → us[i]? = some u → ∃ v, vs[i]? = some v ∧ RepV K H ρ u v
  | _, _, _, _, .nil, e => by simp at e
  | _, _, 0, _, .cons h _, e => by simp at e; subst e; exact ⟨_, rfl, h⟩
  | _, _, i + 1, u, .cons _ r, e => by
    obtain ⟨v, h1, h2⟩ := RepVs.get (i := i) (u := u) r (by simpa using e)
    exact ⟨v, by simpa using h1, h2⟩
theorem RepVs.append : ∀ {us ws : List U} {vs xs : List V}, RepVs K H ρ us vs → RepVs K H ρ ws xs → RepVs K H ρ (us ++ ws) (vs ++ xs)
  | _, _, _, _, .nil, s => s
  | _, _, _, _, .cons h r, s => .cons h (RepVs.append r s)
theorem RepVs.set {u : U} {v : V} (h : RepV K H ρ u v) : ∀ {us : List U} {vs : List V} (i : Nat), RepVs K H ρ us vs → RepVs K H ρ (us.set i u) (vs.set i v)
  | _, _, _, .nil => .nil
  | _, _, 0, .cons _ r => .cons h r
  | _, _, i + 1, .cons q r => .cons q (RepVs.set h i r)
theorem RepVs.take : ∀ {us : List U} {vs : List V} (n : Nat), RepVs K H ρ us vs → RepVs K H ρ (us.take n) (vs.take n)
  | _, _, 0, _ => .nil
  | _, _, _ + 1, .nil => .nil
  | _, _, n + 1, .cons h r => .cons h (RepVs.take n r)
theorem RepVs.drop : ∀ {us : List U} {vs : List V} (n : Nat), RepVs K H ρ us vs → RepVs K H ρ (us.drop n) (vs.drop n)
  | _, _, 0, r => r
  | _, _, _ + 1, .nil => .nil
  | _, _, n + 1, .cons _ r => RepVs.drop n r
theorem RepVs.one {u : U} {v : V} (h : RepV K H ρ u v) : RepVs K H ρ [u] [v] := .cons h .nil
theorem RepVs.reverse {us : List U} {vs : List V} (r : RepVs K H ρ us vs) : RepVs K H ρ us.reverse vs.reverse := by
  induction us generalizing vs with
  | nil => cases r; exact .nil
  | cons u us ih =>
    cases r with
    | cons h r => rw [List.reverse_cons, List.reverse_cons]; exact (ih r).append (.one h)
theorem RepVs.ints : ∀ {is : List Int} {vs : List V}, RepVs K H ρ (is.map U.int) vs → vs = is.map V.int
  | [], _, r => by cases r; rfl
  | i :: is, _, r => by
    cases r with
    | cons h r => cases h; rw [RepVs.ints r]; rfl
theorem RepVs.ofInts : ∀ (is : List Int), RepVs K H ρ (is.map U.int) (is.map V.int)
  | [] => .nil
  | _ :: is => .cons .int (RepVs.ofInts is)
theorem RepVs.strs : ∀ {is : List Str} {vs : List V}, RepVs K H ρ (is.map U.str) vs → vs = is.map V.str
  | [], _, r => by cases r; rfl
  | i :: is, _, r => by
    cases r with
    | cons h r => cases h; rw [RepVs.strs r]; rfl
theorem RepVs.ofStrs : ∀ (is : List Str), (∀ x ∈ is, PyData.strOk x = true) → RepVs K H ρ (is.map U.str) (is.map V.str)
  | [], _ => .nil
  | x :: is, h => .cons (.str (h x (by simp))) (RepVs.ofStrs is fun y hy => h y (by simp [hy]))
theorem RepVs.strsOk : ∀ {is : List Str} {vs : List V}, RepVs K H ρ (is.map U.str) vs → ∀ x ∈ is, PyData.strOk x = true
  | [], _, _ => by simp
  | i :: is, _, r => by
    cases r with
    | cons h r =>
      cases h with
      | str h =>
        intro x hx
        rcases List.mem_cons.mp hx with e | e
        · exact e ▸ h
        · exact RepVs.strsOk r x e
theorem RepVs.bls : ∀ {is : List Bool} {vs : List V}, RepVs K H ρ (is.map U.bl) vs → vs = is.map V.bl
  | [], _, r => by cases r; rfl
  | i :: is, _, r => by
    cases r with
    | cons h r => cases h; rw [RepVs.bls r]; rfl
end

theorem nodup_inj {α : Type} {l : List α} (h : l.Nodup) {i j : Nat} (hi : i < l.length) (hj : j < l.length) (e : l[i] = l[j]) : i = j := by
  have p := List.pairwise_iff_getElem.mp h
  rcases Nat.lt_trichotomy i j with q | q | q
  · exact absurd e (p i j hi hj q)
  · exact q
  · exact absurd e.symm (p j i hj hi q)
/-! ### how the memory lies -/
def RepC (K : PySem.W.Frag) (H : Hp) (ρ : List Addr) : Cell → Addr → Prop
  | .lst us, a => ∃ vs, H a = some (.lst vs) ∧ RepVs K H ρ us vs
  | .dct kus, a => ∃ kvs, H a = some (.dK kvs) ∧ kvs.map (·.1) = kus.map (·.1) ∧ RepVs K H ρ (kus.map (·.2)) (kvs.map (·.2))
  | .fdc kus, a => ∃ o kvs, H a = some (.frz o (.dK kvs)) ∧ kvs.map (·.1) = kus.map (·.1) ∧ RepVs K H ρ (kus.map (·.2)) (kvs.map (·.2))
  | .dtt kus, a => ∃ kvs, H a = some (.dT kvs) ∧ kvs.map (·.1) = kus.map (·.1) ∧ RepVs K H ρ (kus.map (·.2)) (kvs.map (·.2))
  | .fdt kus, a => ∃ o kvs, H a = some (.frz o (.dT kvs)) ∧ kvs.map (·.1) = kus.map (·.1) ∧ RepVs K H ρ (kus.map (·.2)) (kvs.map (·.2))
  | .obj c fs, a => ∃ dx fvs, H a = some (.ins (He.ga K c) dx fvs) ∧ fvs.map (·.1) = fs.map (·.1) ∧ RepVs K H ρ (fs.map (·.2)) (fvs.map (·.2))
structure RepM (K : PySem.W.Frag) (H : Hp) (ρ : List Addr) (μ : Mem) : Prop where
  len : ρ.length = μ.length
  nd : ρ.Nodup
  cell : ∀ (i : Nat) (c : Cell), μ[i]? = some c → ∃ a, ρ[i]? = some a ∧ RepC K H ρ c a
section
variable {K : PySem.W.Frag} {H H' : Hp} {ρ ρ' : List Addr} {μ : Mem}
def Cell.soft : Cell → Bool
  | .fdc _ => false
  | .fdt _ => false
  | _ => true
theorem RepC.there {c : Cell} {a : Addr} (h : RepC K H ρ c a) : ∃ o, H a = some o ∧ (c.soft = true → Sft o) := by
  cases c with
  | lst us => obtain ⟨vs, e, _⟩ := h; exact ⟨_, e, by simp [Sft]⟩
  | dct us => obtain ⟨vs, e, _⟩ := h; exact ⟨_, e, by simp [Sft]⟩
  | fdc us => obtain ⟨o, vs, e, _⟩ := h; exact ⟨_, e, fun h => nomatch h⟩
  | dtt us => obtain ⟨vs, e, _⟩ := h; exact ⟨_, e, by simp [Sft]⟩
  | fdt us => obtain ⟨o, vs, e, _⟩ := h; exact ⟨_, e, fun h => nomatch h⟩
  | obj c us => obtain ⟨o, vs, e, _⟩ := h; exact ⟨_, e, by simp [Sft]⟩
theorem RepC.tx {c : Cell} {a : Addr} {o' : HO} (h : RepC K H ρ c a) (hs : c.soft = true) : TX H (upd H a o') := by
  obtain ⟨o, e, h1⟩ := h.there
  exact TX.put fun o2 r => by rw [e] at r; cases r; exact h1 hs
theorem RepC.monoV {c : Cell} {a : Addr} (t : TV H H') (x : Ext ρ ρ') (e : H' a = H a) (h : RepC K H ρ c a) : RepC K H' ρ' c a := by
  cases c with
  | lst us => obtain ⟨vs, q, r⟩ := h; exact ⟨vs, e.trans q, r.monoV t x⟩
  | dct us => obtain ⟨vs, q, w, r⟩ := h; exact ⟨vs, e.trans q, w, r.monoV t x⟩
  | fdc us => obtain ⟨o, vs, q, w, r⟩ := h; exact ⟨o, vs, e.trans q, w, r.monoV t x⟩
  | dtt us => obtain ⟨vs, q, w, r⟩ := h; exact ⟨vs, e.trans q, w, r.monoV t x⟩
  | fdt us => obtain ⟨o, vs, q, w, r⟩ := h; exact ⟨o, vs, e.trans q, w, r.monoV t x⟩
  | obj c us => obtain ⟨o, vs, q, w, r⟩ := h; exact ⟨o, vs, e.trans q, w, r.monoV t x⟩
theorem RepC.mono {c : Cell} {a : Addr} (t : TX H H') (x : Ext ρ ρ') (e : H' a = H a) (h : RepC K H ρ c a) : RepC K H' ρ' c a := h.monoV t.tv x e
theorem RepM.at (m : RepM K H ρ μ) {i : Nat} {a : Addr} (e : ρ[i]? = some a) : ∃ c, μ[i]? = some c ∧ RepC K H ρ c a := by
  have hi : i < ρ.length := (List.getElem?_eq_some_iff.mp e).1
  have hj : i < μ.length := m.len ▸ hi
  obtain ⟨a', e', r⟩ := m.cell i _ (List.getElem?_eq_getElem hj)
  rw [e] at e'; cases e'
  exact ⟨_, List.getElem?_eq_getElem hj, r⟩
theorem RepM.get (m : RepM K H ρ μ) {i : Nat} {a : Addr} {c : Cell} (e : ρ[i]? = some a) (h : μ[i]? = some c) : RepC K H ρ c a := by
  obtain ⟨a', e', r⟩ := m.cell i c h
  rw [e] at e'; cases e'
  exact r
theorem RepM.lst (m : RepM K H ρ μ) {i : Nat} {a : Addr} {us : List U} (e : ρ[i]? = some a) (h : μ[i]? = some (.lst us)) : ∃ vs, H a = some (.lst vs) ∧ RepVs K H ρ us vs := m.get e h
theorem RepM.here (m : RepM K H ρ μ) {a : Addr} (h : a ∈ ρ) : H a ≠ none := by
  obtain ⟨i, hi, e⟩ := List.getElem_of_mem h
  obtain ⟨c, _, r⟩ := m.at (i := i) (a := a) (by rw [List.getElem?_eq_getElem hi, e])
  obtain ⟨o, q, _⟩ := r.there
  rw [q]; simp
theorem RepM.notin (m : RepM K H ρ μ) {p : Addr} (h : H p = none) : p ∉ ρ := fun q => m.here q h
/-- the heap has more, the memory is the same -/
theorem RepM.keep (m : RepM K H ρ μ) (t : TX H H') (k : ∀ a ∈ ρ, H' a = H a) : RepM K H' ρ μ := ⟨m.len, m.nd, fun i c h => by
  obtain ⟨a, e, r⟩ := m.cell i c h
  exact ⟨a, e, r.mono t (Ext.refl _) (k a (List.mem_of_getElem? e))⟩⟩
theorem RepM.temp (m : RepM K H ρ μ) {p : Addr} {o : HO} (h : H p = none) : RepM K (upd H p o) ρ μ := m.keep (TX.new h) fun a ha => upd_ne fun e => m.notin h (e ▸ ha)
/-- a new cell -/
theorem RepM.new (m : RepM K H ρ μ) {p : Addr} {o : HO} {c : Cell} (h : H p = none) (r : RepC K (upd H p o) (ρ ++ [p]) c p) : RepM K (upd H p o) (ρ ++ [p]) (μ ++ [c]) := by
  refine ⟨by simp [m.len], ?_, fun i d e => ?_⟩
  · rw [List.nodup_append]
    exact ⟨m.nd, by simp, fun a ha b hb => by simp at hb; subst hb; exact fun e => m.notin h (e ▸ ha)⟩
  · by_cases hi : i < μ.length
    · rw [List.getElem?_append_left hi] at e
      obtain ⟨a, e1, r1⟩ := m.cell i d e
      exact ⟨a, (Ext.snoc ρ p).get e1, r1.mono (TX.new h) (Ext.snoc ρ p) (upd_ne fun q => m.notin h (q ▸ List.mem_of_getElem? e1))⟩
    · have hi2 : i = μ.length := by
        have := (List.getElem?_eq_some_iff.mp e).1
        simp at this
        omega
      subst hi2
      rw [List.getElem?_append_right (Nat.le_refl _)] at e
      simp at e
      subst e
      exact ⟨p, by rw [← m.len, List.getElem?_append_right (Nat.le_refl _)]; simp, r⟩
/-- a cell is changed -/
theorem RepM.putV (m : RepM K H ρ μ) {i : Nat} {a : Addr} {o : HO} {c : Cell} (t : TV H (upd H a o)) (e : ρ[i]? = some a) (r : RepC K (upd H a o) ρ c a) : RepM K (upd H a o) ρ (μ.set i c) := by
  obtain ⟨c0, e0, r0⟩ := m.at e
  refine ⟨by simp [m.len], m.nd, fun j d h => ?_⟩
  by_cases hj : i = j
  · subst hj
    rw [List.getElem?_set_self (List.getElem?_eq_some_iff.mp e0).1] at h
    cases h
    exact ⟨a, e, r⟩
  · rw [List.getElem?_set_ne hj] at h
    obtain ⟨b, e1, r1⟩ := m.cell j d h
    refine ⟨b, e1, r1.monoV t (Ext.refl _) (upd_ne fun q => hj ?_)⟩
    subst q
    obtain ⟨h1, h2⟩ := List.getElem?_eq_some_iff.mp e
    obtain ⟨h3, h4⟩ := List.getElem?_eq_some_iff.mp e1
    exact nodup_inj m.nd h1 h3 (h2.trans h4.symm)
end

/-! ### how the slots lie -/
structure RepS (K : PySem.W.Frag) (H : Hp) (ρ : List Addr) (s : Slots) (σ : L2.St) : Prop where
  len : s.length = σ.length
  get : ∀ (i : Nat) (u : U), s[i]? = some (some u) → ∃ v, σ[i]? = some (some v) ∧ RepV K H ρ u v
theorem RepS.mono {K : PySem.W.Frag} {H H' : Hp} {ρ ρ' : List Addr} {s : Slots} {σ : L2.St} (t : TX H H') (x : Ext ρ ρ') (h : RepS K H ρ s σ) : RepS K H' ρ' s σ :=
  ⟨h.len, fun i u e => by obtain ⟨v, q, r⟩ := h.get i u e; exact ⟨v, q, r.mono t x⟩⟩
theorem RepS.set {K : PySem.W.Frag} {H : Hp} {ρ : List Addr} {s : Slots} {σ : L2.St} {i : Nat} {u : U} {v : V} (h : RepS K H ρ s σ) (r : RepV K H ρ u v) : RepS K H ρ (s.set i (some u)) (σ.set i (some v)) := by
  refine ⟨by simp [h.len], fun j w e => ?_⟩
  by_cases hj : i = j
  · subst hj
    have hl : i < s.length := by
      have := (List.getElem?_eq_some_iff.mp e).1
      simpa using this
    rw [List.getElem?_set_self hl] at e
    cases e
    exact ⟨v, List.getElem?_set_self (h.len ▸ hl), r⟩
  · rw [List.getElem?_set_ne hj] at e
    obtain ⟨x, q, r'⟩ := h.get j w e
    exact ⟨x, by rw [List.getElem?_set_ne hj]; exact q, r'⟩

/-! ### a step of the heap -/
structure Stp (K : PySem.W.Frag) (ρ : List Addr) (H : Hp) (ρ' : List Addr) (H' : Hp) (μ' : Mem) : Prop where
  ext : Ext ρ ρ'
  tx : TX H H'
  mem : RepM K H' ρ' μ'
section
variable {K : PySem.W.Frag} {H H1 H2 : Hp} {ρ ρ1 ρ2 : List Addr} {μ μ1 μ2 : Mem}
theorem Stp.refl (m : RepM K H ρ μ) : Stp K ρ H ρ H μ := ⟨Ext.refl _, TX.refl _, m⟩
theorem Stp.trans (a : Stp K ρ H ρ1 H1 μ1) (b : Stp K ρ1 H1 ρ2 H2 μ2) : Stp K ρ H ρ2 H2 μ2 := ⟨a.ext.trans b.ext, a.tx.trans b.tx, b.mem⟩
theorem Stp.temp (m : RepM K H ρ μ) {p : Addr} {o : HO} (h : H p = none) : Stp K ρ H ρ (upd H p o) μ := ⟨Ext.refl _, TX.new h, m.temp h⟩
theorem Stp.new (m : RepM K H ρ μ) {p : Addr} {o : HO} {c : Cell} (h : H p = none) (r : RepC K (upd H p o) (ρ ++ [p]) c p) : Stp K ρ H (ρ ++ [p]) (upd H p o) (μ ++ [c]) := ⟨Ext.snoc ρ p, TX.new h, m.new h r⟩
theorem RepM.put (m : RepM K H ρ μ) {i : Nat} {a : Addr} {o : HO} {c c0 : Cell} (e : ρ[i]? = some a) (h0 : μ[i]? = some c0) (hs : c0.soft = true) (r : RepC K (upd H a o) ρ c a) : RepM K (upd H a o) ρ (μ.set i c) :=
  m.putV ((m.get e h0).tx hs).tv e r
theorem Stp.put (m : RepM K H ρ μ) {i : Nat} {a : Addr} {o : HO} {c c0 : Cell} (e : ρ[i]? = some a) (h0 : μ[i]? = some c0) (hs : c0.soft = true) (r : RepC K (upd H a o) ρ c a) : Stp K ρ H ρ (upd H a o) (μ.set i c) :=
  ⟨Ext.refl _, (m.get e h0).tx hs, m.put e h0 hs r⟩
theorem Stp.v (t : Stp K ρ H ρ1 H1 μ1) {u : U} {v : V} (h : RepV K H ρ u v) : RepV K H1 ρ1 u v := h.mono t.tx t.ext
theorem Stp.vs (t : Stp K ρ H ρ1 H1 μ1) {u : List U} {v : List V} (h : RepVs K H ρ u v) : RepVs K H1 ρ1 u v := h.mono t.tx t.ext
theorem Stp.s (t : Stp K ρ H ρ1 H1 μ1) {u : Slots} {v : L2.St} (h : RepS K H ρ u v) : RepS K H1 ρ1 u v := h.mono t.tx t.ext
end

/-! ### what is wanted behind -/
abbrev RelT (α β : Type) := PySem.W.Frag → Hp → List Addr → α → β → Prop
def relV : RelT U V := RepV
def relVs : RelT (List U) (List V) := RepVs
def relB : RelT Bool Bool := fun _ _ _ a b => a = b
def relO : RelT (Option Int) (Option Int) := fun _ _ _ a b => a = b
def Post {α β : Type} (X : Cx) (W : WX) (σ : L2.St) (rel : RelT α β) (ρ : List Addr) (H : Hp) (r : Res α) (Q : β → Hp → Prop) : Prop := match r with
  | .ok u μ' => ∀ v H' ρ', Stp X.K ρ H ρ' H' μ' → rel X.K H' ρ' u v → Q v H'
  | .ex c μ' => ∀ cls H' ρ', Stp X.K ρ H ρ' H' μ' → X.mg c = some cls → W cls none σ H'
  | .bad => False
theorem Post.bind {α β γ δ : Type} {X : Cx} {W : WX} {σ : L2.St} {rel1 : RelT α β} {rel2 : RelT γ δ} {ρ : List Addr} {H : Hp} {r : Res α} {k : α → Mem → Res γ} {Q : δ → Hp → Prop} {Q1 : β → Hp → Prop}
    (h : Post X W σ rel2 ρ H (r.bind k) Q) (hk : ∀ a μ1 x H1 ρ1, Stp X.K ρ H ρ1 H1 μ1 → rel1 X.K H1 ρ1 a x → Post X W σ rel2 ρ1 H1 (k a μ1) Q → Q1 x H1) : Post X W σ rel1 ρ H r Q1 := by
  cases r with
  | ok a m =>
    intro v H' ρ' t q
    refine hk a m v H' ρ' t q ?_
    have h' : Post X W σ rel2 ρ H (k a m) Q := h
    generalize k a m = z at h'
    cases z with
    | ok b m2 => exact fun v2 H2 ρ2 t2 q2 => h' v2 H2 ρ2 (t.trans t2) q2
    | ex c m2 => exact fun cls H2 ρ2 t2 e => h' cls H2 ρ2 (t.trans t2) e
    | bad => exact h'
  | ex c m => exact h
  | bad => exact h
theorem Post.ok {α β : Type} {X : Cx} {W : WX} {σ : L2.St} {rel : RelT α β} {ρ ρ' : List Addr} {H H' : Hp} {u : α} {v : β} {μ' : Mem} {Q : β → Hp → Prop} (h : Post X W σ rel ρ H (.ok u μ') Q) (t : Stp X.K ρ H ρ' H' μ') (r : rel X.K H' ρ' u v) : Q v H' := h v H' ρ' t r

/-! ### an expression, a test, arguments -/
def WE (X : Cx) (e : Expr) : TE := fun σ H Q => ∃ t, PE X e t ∧ t σ H Q
theorem pe_w {X : Cx} {e : Expr} : PE X e (WE X e) := ⟨fun pins s σ H Q I ⟨_, h, q⟩ => h.run pins s σ H Q I q⟩
def WT (X : Cx) (e : Expr) : TT := fun σ H Q => ∃ t, PT X e t ∧ t σ H Q
theorem pt_w {X : Cx} {e : Expr} : PT X e (WT X e) := ⟨fun pins s σ H Q I ⟨_, h, q⟩ => h.run pins s σ H Q I q⟩
def WA (X : Cx) (es : List Expr) : TA := fun σ H Q => ∃ t, PA X es t ∧ t σ H Q
theorem pa_w {X : Cx} {es : List Expr} : PA X es (WA X es) := ⟨fun pos pins s σ H Q I ⟨_, h, q⟩ => h.run pos pins s σ H Q I q⟩
def OpW (X : Cx) (f : Value → Value → Sem Value) : R2 := fun x y H Q => ∃ r, OpR X f r ∧ r x y H Q
theorem op_w {X : Cx} {f : Value → Value → Sem Value} : OpR X f (OpW X f) := fun pins s σ H x y v u Q I rx ry ⟨_, h, q⟩ => h pins s σ H x y v u Q I rx ry q
def IxW (X : Cx) : R2 := fun x y H Q => ∃ r, IxR X r ∧ r x y H Q
theorem ix_w {X : Cx} : IxR X (IxW X) := fun value slice pins s σ H x y v u Q I rx ry ⟨_, h, q⟩ hs => h value slice pins s σ H x y v u Q I rx ry q hs

def CE (X : Cx) (W : WX) (e : Expr) (m : FE) : Prop := ∀ ρ μ s σ H Q, RepS X.K H ρ s σ → RepM X.K H ρ μ → Post X W σ relV ρ H (m s μ) Q → WE X e σ H Q
def CT (X : Cx) (W : WX) (e : Expr) (m : FT) : Prop := ∀ ρ μ s σ H Q, RepS X.K H ρ s σ → RepM X.K H ρ μ → Post X W σ relB ρ H (m s μ) Q → WT X e σ H Q
def CA (X : Cx) (W : WX) (es : List Expr) (m : FA) : Prop := ∀ ρ μ s σ H Q, RepS X.K H ρ s σ → RepM X.K H ρ μ → Post X W σ relVs ρ H (m s μ) Q → WA X es σ H Q

/-- what holds of a context: nothing is handled, k calls have room, W takes what is raised -/
structure Good (X : Cx) (W : WX) (k : Nat) : Prop where
  calm : X.calm = true
  room : Room k X.A
  tk : Takes X W
  po : PassesOwn (model X.prog X.w) X.A X.env X.xe

section
variable {X : Cx} {W : WX} {k : Nat}
/-! names and constants -/
def fVar (i : Nat) : FE := fun s μ => match s[i]? with
  | some (some u) => .ok u μ
  | _ => .bad
theorem ce_var (i : Nat) {x : Str} {pos : Pos} (hN : X.N[i]? = some x := by rfl) (hv : Vis X.env.scope x := by first | exact Or.inl rfl | exact Or.inr (Or.inl rfl) | exact Or.inr (Or.inr rfl)) (hd : (x == ("__debug__" : Str)) = false := by decide)
    (hcd : (x == ("__classdict__" : Str)) = false := by decide) : CE X W (.Name x pos) (fVar i) := by
  intro ρ μ s σ H Q hs hm h
  refine ⟨tVar i, pe_var hN hv hd hcd, ?_⟩
  unfold fVar at h
  cases e : s[i]? with
  | none => rw [e] at h; exact h.elim
  | some o =>
    cases o with
    | none => rw [e] at h; exact h.elim
    | some u =>
      rw [e] at h
      obtain ⟨v, q, r⟩ := hs.get i u e
      exact ⟨v, q, h.ok (Stp.refl hm) r⟩
def fC (u : U) : FE := fun _ μ => .ok u μ
theorem ce_int {i : Int} {j : Nat} {pos : Pos} : CE X W (.Constant (.int i) j pos) (fC (.int i)) := fun ρ μ s σ H Q hs hm h => ⟨_, pe_int, h.ok (Stp.refl hm) .int⟩
theorem ce_bl {b : Bool} {j : Nat} {pos : Pos} : CE X W (.Constant (.bool b) j pos) (fC (.bl b)) := fun ρ μ s σ H Q hs hm h => ⟨_, pe_bl, h.ok (Stp.refl hm) .bl⟩
theorem ce_non {j : Nat} {pos : Pos} : CE X W (.Constant .none j pos) (fC .non) := fun ρ μ s σ H Q hs hm h => ⟨_, pe_non, h.ok (Stp.refl hm) .non⟩
theorem ce_str {x : Str} {j : Nat} {pos : Pos} (hx : PyData.strOk x = true := by decide +kernel) : CE X W (.Constant (.str x) j pos) (fC (.str x)) := fun ρ μ s σ H Q hs hm h => ⟨_, pe_str, h.ok (Stp.refl hm) (.str hx)⟩
/-- a constant of the module -/
theorem ce_glob {x : Str} {u : U} {v : V} {z : Value} {pos : Pos} (hg : Gl X x) (hm : X.mg x = some z) (r : RelV v z) (q : ∀ H ρ, RepV X.K H ρ u v) (hd : (x == ("__debug__" : Str)) = false := by decide) : CE X W (.Name x pos) (fC u) :=
  fun ρ μ s σ H Q hs hm' h => ⟨_, pe_glob hg hm r hd, h.ok (Stp.refl hm') (q H ρ)⟩

/-! two-place operations -/
def fOp (f : U → U → Mem → Res U) (a b : FE) : FE := fun s μ => (a s μ).bind fun u μ1 => (b s μ1).bind fun w μ2 => f u w μ2
def OpS (X : Cx) (W : WX) (g : Value → Value → Sem Value) (f : U → U → Mem → Res U) : Prop := ∀ ρ μ σ H u w x y Q, RepM X.K H ρ μ → RepV X.K H ρ u x → RepV X.K H ρ w y → Post X W σ relV ρ H (f u w μ) Q → OpW X g x y H Q
theorem ce_op {op : Operator} {a b : Expr} {f : U → U → Mem → Res U} {ma mb : FE} {pos : Pos} (ho : OpS X W (binaryOp op) f) (ha : CE X W a ma) (hb : CE X W b mb) : CE X W (.BinOp a op b pos) (fOp f ma mb) := by
  intro ρ μ s σ H Q hs hm h
  refine ⟨_, pe_op op_w pe_w pe_w, ?_⟩
  refine ha ρ μ s σ H _ hs hm (h.bind fun u μ1 x H1 ρ1 t1 r1 h1 => ?_)
  refine hb ρ1 μ1 s σ H1 _ (t1.s hs) t1.mem (h1.bind fun w μ2 y H2 ρ2 t2 r2 h2 => ?_)
  exact ho ρ2 μ2 σ H2 u w x y Q t2.mem (t2.v r1) r2 h2
theorem ce_cmp {op : CmpOp} {a b : Expr} {f : U → U → Mem → Res U} {ma mb : FE} {pos : Pos} (ho : OpS X W (compareOp op) f) (ha : CE X W a ma) (hb : CE X W b mb) (hm0 : behindInMarks op b = false) : CE X W (.Compare a [op] [b] pos) (fOp f ma mb) := by
  intro ρ μ s σ H Q hs hm h
  refine ⟨_, pe_cmpR op_w pe_w pe_w hm0, ?_⟩
  refine ha ρ μ s σ H _ hs hm (h.bind fun u μ1 x H1 ρ1 t1 r1 h1 => ?_)
  refine hb ρ1 μ1 s σ H1 _ (t1.s hs) t1.mem (h1.bind fun w μ2 y H2 ρ2 t2 r2 h2 => ?_)
  exact ho ρ2 μ2 σ H2 u w x y Q t2.mem (t2.v r1) r2 h2
end
end Dg
/-! Dg2: operators, comparisons, tests, displays, calls of built-ins by value. -/
namespace Dg
open PySem PySem.Spec PyProof.Rows L2

def lim : Nat := 16777216
theorem lim_le {n : Nat} (h : n ≤ lim) : n ≤ sizeLine := h
theorem lim_lt {n : Nat} (h : n < lim) : n < sizeLine := h

/-! ### data of a value (for ==) -/
mutual
def toD (g : Nat → Option PyData) : U → Option PyData
  | .non => some .none
  | .bl b => some (.bool b)
  | .int i => some (.int i)
  | .str s => some (.str s)
  | .tup us => (toDs g us).map .tuple
  | .ref i => g i
  | .frl us => (toDs g us).map .list
def toDs (g : Nat → Option PyData) : List U → Option (List PyData)
  | [] => some []
  | u :: us => match toD g u, toDs g us with
    | some d, some ds => some (d :: ds)
    | _, _ => none
end
def refD (μ : Mem) : Nat → Nat → Option PyData
  | 0, _ => none
  | n + 1, i => match μ[i]? with
    | some (.lst us) => (toDs (refD μ n) us).map .list
    | _ => none
def datU (μ : Mem) (u : U) : Option PyData := toD (refD μ 6) u

def DOk (K : PySem.W.Frag) (H : Hp) (ρ : List Addr) (g : Nat → Option PyData) : Prop := ∀ i a d, ρ[i]? = some a → g i = some d → Dp K H (.ref a) d ∧ d.canLay0 = true
section
variable {K : PySem.W.Frag} {H : Hp} {ρ : List Addr} {μ : Mem} {g : Nat → Option PyData}
mutual
theorem toD_ok (hg : DOk K H ρ g) : ∀ (u : U) (v : V) (d : PyData), RepV K H ρ u v → toD g u = some d → Dp K H v d ∧ d.canLay0 = true
  | .non, _, _, h, e => by
    cases h
    simp only [toD, Option.some.injEq] at e
    subst e
    exact ⟨.non, rfl⟩
  | .bl b, _, _, h, e => by
    cases h
    simp only [toD, Option.some.injEq] at e
    subst e
    exact ⟨.bl _, rfl⟩
  | .int i, _, _, h, e => by
    cases h
    simp only [toD, Option.some.injEq] at e
    subst e
    exact ⟨.int _, rfl⟩
  | .str s, _, _, h, e => by
    cases h with
    | str hs =>
      simp only [toD, Option.some.injEq] at e
      subst e
      exact ⟨.str _, by simpa [PyData.canLay0] using hs⟩
  | .tup us, _, _, h, e => by
    cases h with
    | tup hs hr =>
      simp only [toD, Option.map_eq_some_iff] at e
      obtain ⟨ds, e1, rfl⟩ := e
      obtain ⟨h1, h2⟩ := toDs_ok hg us _ ds hr e1
      exact ⟨.tup hs h1, by simpa [PyData.canLay0] using h2⟩
  | .ref i, _, _, h, e => by
    cases h with
    | ref hr =>
      simp only [toD] at e
      exact hg i _ _ hr e
  | .frl us, _, _, h, e => by
    cases h with
    | frl hs hr =>
      simp only [toD, Option.map_eq_some_iff] at e
      obtain ⟨ds, e1, rfl⟩ := e
      obtain ⟨h1, h2⟩ := toDs_ok hg us _ ds hr e1
      exact ⟨.lst hs.sq h1, by simpa [PyData.canLay0] using h2⟩
theorem toDs_ok (hg : DOk K H ρ g) : ∀ (us : List U) (vs : List V) (ds : List PyData), RepVs K H ρ us vs → toDs g us = some ds → DpAll K H vs ds ∧ PyData.canLayAll0 ds = true
  | [], _, _, h, e => by
    cases h
    simp only [toDs, Option.some.injEq] at e
    subst e
    exact ⟨.nil, rfl⟩
  | u :: us, _, _, h, e => by
    cases h with
    | cons h1 h2 =>
      simp only [toDs] at e
      cases e1 : toD g u with
      | none => rw [e1] at e; cases e
      | some d =>
        cases e2 : toDs g us with
        | none => rw [e1, e2] at e; cases e
        | some ds =>
          rw [e1, e2] at e
          cases e
          obtain ⟨a1, a2⟩ := toD_ok hg u _ d h1 e1
          obtain ⟨b1, b2⟩ := toDs_ok hg us _ ds h2 e2
          exact ⟨.cons a1 b1, by simp [PyData.canLayAll0, a2, b2]⟩
end
theorem refD_ok (m : RepM K H ρ μ) : ∀ n, DOk K H ρ (refD μ n)
  | 0, _, _, _, _, e => by simp [refD] at e
  | n + 1, i, a, d, hi, e => by
    obtain ⟨c, hc, r⟩ := m.at hi
    simp only [refD, hc] at e
    cases c with
    | lst us =>
      obtain ⟨vs, q, rr⟩ := r
      simp only [Option.map_eq_some_iff] at e
      obtain ⟨ds, e1, rfl⟩ := e
      obtain ⟨h1, h2⟩ := toDs_ok (refD_ok m n) us _ ds rr e1
      exact ⟨.lst (.inl (.inl q)) h1, by simpa [PyData.canLay0] using h2⟩
    | _ => cases e
theorem datU_ok (m : RepM K H ρ μ) {u : U} {v : V} {d : PyData} (r : RepV K H ρ u v) (e : datU μ u = some d) : Dp K H v d ∧ d.canLay0 = true := toD_ok (refD_ok m 6) u v d r e
end
def eqLim : Nat := 800
def eqU (u w : U) (μ : Mem) : Option Bool := match datU μ u, datU μ w with
  | some d, some e => if min d.depth e.depth ≤ eqLim then some (PyData.eqv d e) else none
  | _, _ => none
def resB (o : Option Bool) (μ : Mem) : Res U := match o with
  | some b => .ok (.bl b) μ
  | none => .bad
def uEq (u w : U) (μ : Mem) : Res U := resB (eqU u w μ) μ
def uNe (u w : U) (μ : Mem) : Res U := resB ((eqU u w μ).map not) μ

section
variable {X : Cx} {W : WX} {k : Nat}
def rEqL (K : PySem.W.Frag) : R2 := fun x y H Q => ∃ d e, Dp K H x d ∧ Dp K H y e ∧ d.canLay0 = true ∧ e.canLay0 = true ∧ min d.depth e.depth ≤ eqLim ∧ Q (.bl (PyData.eqv d e)) H
def rNeL (K : PySem.W.Frag) : R2 := fun x y H Q => ∃ d e, Dp K H x d ∧ Dp K H y e ∧ d.canLay0 = true ∧ e.canLay0 = true ∧ min d.depth e.depth ≤ eqLim ∧ Q (.bl (!PyData.eqv d e)) H
theorem op_eqL (hu : X.A.units + 800 < cLine) : OpR X (compareOp .Eq) (rEqL X.K) := by
  intro pins s σ H x y v u Q I rx ry h
  obtain ⟨d, e, hd, he, sd, se, hl, q⟩ := h
  obtain ⟨as, r1⟩ := Dp.reads I d x v hd rx
  obtain ⟨bs, r2⟩ := Dp.reads I e y u he ry
  exact SeqAt.compareEq_reads r1 r2 sd se (Nat.lt_of_le_of_lt (Nat.add_le_add_left hl _) hu) ⟨.bl _, H, I, rfl, q⟩
theorem op_neL (hu : X.A.units + 800 < cLine) : OpR X (compareOp .NotEq) (rNeL X.K) := by
  intro pins s σ H x y v u Q I rx ry h
  obtain ⟨d, e, hd, he, sd, se, hl, q⟩ := h
  obtain ⟨as, r1⟩ := Dp.reads I d x v hd rx
  obtain ⟨bs, r2⟩ := Dp.reads I e y u he ry
  exact SeqAt.compareNe_reads r1 r2 sd se (Nat.lt_of_le_of_lt (Nat.add_le_add_left hl _) hu) ⟨.bl _, H, I, rfl, q⟩
/-- levels are counted from 40 on -/
theorem Good.un (G : Good X W (k + 40)) : X.A.units + 800 < cLine := by
  have := G.room.un
  omega
theorem Good.hu (G : Good X W (k + 40)) : X.A.units + 1 < cLine := by
  have := G.room.un
  omega
theorem os_eq (G : Good X W (k + 40)) : OpS X W (compareOp .Eq) uEq := by
  intro ρ μ σ H u w x y Q hm ru rw' h
  unfold uEq eqU at h
  cases e1 : datU μ u with
  | none => rw [e1] at h; exact h.elim
  | some d =>
    cases e2 : datU μ w with
    | none => rw [e1, e2] at h; exact h.elim
    | some e =>
      rw [e1, e2] at h
      obtain ⟨a1, a2⟩ := datU_ok hm ru e1
      obtain ⟨b1, b2⟩ := datU_ok hm rw' e2
      by_cases hl : min d.depth e.depth ≤ eqLim
      · simp only [hl, if_true, resB] at h
        exact ⟨_, op_eqL G.un, d, e, a1, b1, a2, b2, hl, h.ok (Stp.refl hm) .bl⟩
      · simp only [hl, if_false, resB] at h
        exact h.elim
theorem os_ne (G : Good X W (k + 40)) : OpS X W (compareOp .NotEq) uNe := by
  intro ρ μ σ H u w x y Q hm ru rw' h
  unfold uNe eqU at h
  cases e1 : datU μ u with
  | none => rw [e1] at h; exact h.elim
  | some d =>
    cases e2 : datU μ w with
    | none => rw [e1, e2] at h; exact h.elim
    | some e =>
      rw [e1, e2] at h
      obtain ⟨a1, a2⟩ := datU_ok hm ru e1
      obtain ⟨b1, b2⟩ := datU_ok hm rw' e2
      by_cases hl : min d.depth e.depth ≤ eqLim
      · simp only [hl, if_true, Option.map_some, resB] at h
        exact ⟨_, op_neL G.un, d, e, a1, b1, a2, b2, hl, h.ok (Stp.refl hm) .bl⟩
      · simp only [hl, if_false, Option.map_none, resB] at h
        exact h.elim

/-! ### arithmetic -/
def big64 (i : Int) : Bool := decide (-(2 ^ 64) < i ∧ i < 2 ^ 64)
def uAdd (u w : U) (μ : Mem) : Res U := match u, w with
  | .int i, .int j => .ok (.int (i + j)) μ
  | .str a, .str b => if a.length + b.length ≤ lim then .ok (.str (a ++ b)) μ else .bad
  | .ref a, .ref b => match μ[a]?, μ[b]? with
    | some (.lst xs), some (.lst ys) => if xs.length + ys.length ≤ lim then .ok (.ref μ.length) (μ ++ [.lst (xs ++ ys)]) else .bad
    | _, _ => .bad
  | .tup (x :: xs), .tup ys => if (x :: xs).length + ys.length ≤ lim then .ok (.tup (x :: xs ++ ys)) μ else .bad
  | .tup [], .tup ys => .ok (.tup ys) μ
  | _, _ => .bad
theorem strOk_append {a b : Str} (ha : PyData.strOk a = true) (hb : PyData.strOk b = true) : PyData.strOk (a ++ b) = true := by
  show ((a.cps ++ b.cps).all _) = true
  rw [Array.all_append]
  exact Bool.and_eq_true_iff.mpr ⟨ha, hb⟩
theorem lst_of {K : PySem.W.Frag} {H : Hp} {ρ : List Addr} {μ : Mem} (hm : RepM K H ρ μ) {i : Nat} {a : Addr} {us : List U} (e : ρ[i]? = some a) (h : μ[i]? = some (.lst us)) : ∃ vs, H a = some (.lst vs) ∧ RepVs K H ρ us vs := hm.get e h
theorem newL {K : PySem.W.Frag} {H : Hp} {ρ : List Addr} {μ : Mem} (hm : RepM K H ρ μ) {p : Addr} {us : List U} {vs : List V} (np : H p = none) (r : RepVs K H ρ us vs) : Stp K ρ H (ρ ++ [p]) (upd H p (.lst vs)) (μ ++ [.lst us]) :=
  Stp.new hm np ⟨vs, upd_same, r.mono (TX.new np) (Ext.snoc ρ p)⟩
theorem refN {K : PySem.W.Frag} {H : Hp} {ρ : List Addr} {μ : Mem} (hm : RepM K H ρ μ) {p : Addr} {H' : Hp} : RepV K H' (ρ ++ [p]) (.ref μ.length) (.ref p) := .ref (by rw [← hm.len, List.getElem?_append_right (Nat.le_refl _)]; simp)
theorem newT {K : PySem.W.Frag} {H : Hp} {ρ : List Addr} {p : Addr} {us : List U} {vs : List V} (np : H p = none) (r : RepVs K H ρ us vs) : RepV K (upd H p (.tup vs)) ρ (.tup us) (.ref p) :=
  .tup (.inl (.inl upd_same)) (r.mono (TX.new np) (Ext.refl _))
theorem os_add : OpS X W (binaryOp .Add) uAdd := by
  intro ρ μ σ H u w x y Q hm ru rw' h
  unfold uAdd at h
  split at h
  · cases ru; cases rw'
    exact ⟨_, op_add, _, _, rfl, rfl, h.ok (Stp.refl hm) .int⟩
  · cases ru with
    | str sa =>
      cases rw' with
      | str sb =>
        split at h
        · exact ⟨_, op_add_str, _, _, rfl, rfl, lim_le (by assumption), h.ok (Stp.refl hm) (.str (strOk_append sa sb))⟩
        · exact h.elim
  · split at h
    · rename_i a b _ _ xs ys e1 e2
      cases ru with
      | ref ra =>
        cases rw' with
        | ref rb =>
          split at h
          · obtain ⟨vs, q1, r1⟩ := lst_of hm ra e1
            obtain ⟨ws, q2, r2⟩ := lst_of hm rb e2
            have hl : vs.length + ws.length ≤ sizeLine := by
              rw [← r1.length, ← r2.length]
              exact lim_le (by assumption)
            exact ⟨_, op_cat, _, _, vs, ws, rfl, rfl, q1, q2, hl, fun p np => h.ok (newL hm np (r1.append r2)) (refN hm)⟩
          · exact h.elim
    · exact h.elim
  · cases ru with
    | tup s1 r1 =>
      cases rw' with
      | tup s2 r2 =>
        split at h
        · rename_i hz
          refine ⟨_, op_catT, _, _, _, _, rfl, rfl, s1, s2, ?_, ?_, fun e => ?_, fun e p np => h.ok (Stp.temp hm np) (newT np (r1.append r2))⟩
          · intro e; subst e; cases r1
          · rw [← r1.length, ← r2.length]; exact lim_le hz
          · subst e
            cases r2
            rw [List.append_nil] at h
            exact h.ok (Stp.refl hm) (.tup s1 r1)
        · exact h.elim
  · cases ru with
    | tup s1 r1 =>
      cases r1
      cases rw' with
      | tup s2 r2 => exact ⟨_, op_cat0, _, _, _, rfl, rfl, s1, s2, h.ok (Stp.refl hm) (.tup s2 r2)⟩
  · exact h.elim
def uSub (u w : U) (μ : Mem) : Res U := match u, w with
  | .int i, .int j => .ok (.int (i - j)) μ
  | _, _ => .bad
theorem os_sub : OpS X W (binaryOp .Sub) uSub := by
  intro ρ μ σ H u w x y Q hm ru rw' h
  unfold uSub at h
  split at h
  · cases ru; cases rw'
    exact ⟨_, op_sub, _, _, rfl, rfl, h.ok (Stp.refl hm) .int⟩
  · exact h.elim
def repU (n : Nat) (xs : List U) : List U := (List.replicate n xs).flatten
theorem RepVs.rep {K : PySem.W.Frag} {H : Hp} {ρ : List Addr} {us : List U} {vs : List V} (r : RepVs K H ρ us vs) : ∀ n : Nat, RepVs K H ρ (repU n us) (List.replicate n vs).flatten
  | 0 => .nil
  | n + 1 => by
    have ih := RepVs.rep r n
    unfold repU at *
    rw [List.replicate_succ, List.replicate_succ, List.flatten_cons, List.flatten_cons]
    exact r.append ih
def uMul (u w : U) (μ : Mem) : Res U := match u, w with
  | .int i, .int j => if big64 i || big64 j then .ok (.int (i * j)) μ else .bad
  | .ref a, .int n => match μ[a]? with
    | some (.lst xs) => if -(2 ^ 63) ≤ n ∧ n < 2 ^ 63 ∧ xs.length * n.toNat ≤ lim then .ok (.ref μ.length) (μ ++ [.lst (repU n.toNat xs)]) else .bad
    | _ => .bad
  | .tup xs, .int n => if -1000 ≤ n ∧ n ≤ 1000 ∧ xs.length ≤ 1000 then .ok (.tup (repU n.toNat xs)) μ else .bad
  | _, _ => .bad
theorem os_mul : OpS X W (binaryOp .Mult) uMul := by
  intro ρ μ σ H u w x y Q hm ru rw' h
  unfold uMul at h
  split at h
  · cases ru; cases rw'
    split at h
    · rename_i hb
      refine ⟨_, op_mul, _, _, rfl, rfl, ?_, h.ok (Stp.refl hm) .int⟩
      rcases Bool.or_eq_true_iff.mp hb with e | e
      · exact .inl (of_decide_eq_true e)
      · exact .inr (of_decide_eq_true e)
    · exact h.elim
  · split at h
    · rename_i xs e1
      cases ru with
      | ref ra =>
        cases rw'
        split at h
        · rename_i hz
          obtain ⟨vs, q1, r1⟩ := lst_of hm ra e1
          exact ⟨_, op_rep, _, _, vs, rfl, rfl, q1, hz.1, hz.2.1, by rw [← r1.length]; exact lim_le hz.2.2, fun p np => h.ok (newL hm np (r1.rep _)) (refN hm)⟩
        · exact h.elim
    · exact h.elim
  · rename_i xs n
    split at h
    · rename_i hz
      cases rw'
      cases ru with
      | tup s1 r1 =>
        rename_i a vs
        by_cases h0 : xs = []
        · subst h0
          cases r1
          have e : repU n.toNat ([] : List U) = [] := by simp [repU]
          rw [e] at h
          exact ⟨_, op_repT1, _, _, _, rfl, rfl, s1, .inl rfl, by omega, by omega, h.ok (Stp.refl hm) (.tup s1 .nil)⟩
        · have hv : vs ≠ [] := fun e => by subst e; cases r1; exact h0 rfl
          by_cases h1 : n = 1
          · subst h1
            have e : repU (1 : Int).toNat xs = xs := by simp [repU]
            rw [e] at h
            exact ⟨_, op_repT1, _, _, _, rfl, rfl, s1, .inr rfl, by omega, by omega, h.ok (Stp.refl hm) (.tup s1 r1)⟩
          · by_cases h2 : n ≤ 0
            · have e : repU n.toNat xs = [] := by rw [Int.toNat_of_nonpos h2]; rfl
              rw [e] at h
              exact ⟨_, op_repT0, _, _, _, rfl, rfl, s1, hv, by omega, h2, fun p np => h.ok (Stp.temp hm np) (newT np .nil)⟩
            · exact ⟨_, op_repT, _, _, _, rfl, rfl, s1, hv, by omega, by omega, by rw [← r1.length]; exact hz.2.2, fun p np => h.ok (Stp.temp hm np) (newT np (r1.rep _))⟩
    · exact h.elim
  · exact h.elim
def uFdiv (u w : U) (μ : Mem) : Res U := match u, w with
  | .int i, .int j => if j ≠ 0 ∧ j.natAbs < 1073741824 then .ok (.int (i.fdiv j)) μ else .bad
  | _, _ => .bad
theorem os_fdiv : OpS X W (binaryOp .FloorDiv) uFdiv := by
  intro ρ μ σ H u w x y Q hm ru rw' h
  unfold uFdiv at h
  split at h
  · cases ru; cases rw'
    split at h
    · exact ⟨_, op_fdivN, _, _, rfl, rfl, by assumption, h.ok (Stp.refl hm) .int⟩
    · exact h.elim
  · exact h.elim
def uMod (u w : U) (μ : Mem) : Res U := match u, w with
  | .int i, .int j => if j ≠ 0 then .ok (.int (i.fmod j)) μ else .bad
  | _, _ => .bad
theorem os_mod : OpS X W (binaryOp .Mod) uMod := by
  intro ρ μ σ H u w x y Q hm ru rw' h
  unfold uMod at h
  split at h
  · cases ru; cases rw'
    split at h
    · exact ⟨_, op_modN, _, _, rfl, rfl, by assumption, h.ok (Stp.refl hm) .int⟩
    · exact h.elim
  · exact h.elim
def uPow (u w : U) (μ : Mem) : Res U := match u, w with
  | .int i, .int j => if 0 ≤ j ∧ j ≤ 1000000 ∧ i.natAbs < 2 ^ 64 then .ok (.int (i ^ j.toNat)) μ else .bad
  | _, _ => .bad
theorem os_pow : OpS X W (binaryOp .Pow) uPow := by
  intro ρ μ σ H u w x y Q hm ru rw' h
  unfold uPow at h
  split at h
  · cases ru; cases rw'
    split at h
    · exact ⟨_, op_pow, _, _, rfl, rfl, by assumption, h.ok (Stp.refl hm) .int⟩
    · exact h.elim
  · exact h.elim
def fNeg (a : FE) : FE := fun s μ => (a s μ).bind fun u μ1 => match u with
  | .int i => .ok (.int (-i)) μ1
  | _ => .bad
theorem ce_neg {a : Expr} {ma : FE} {pos : Pos} (ha : CE X W a ma) : CE X W (.UnaryOp .USub a pos) (fNeg ma) := by
  intro ρ μ s σ H Q hs hm h
  refine ⟨_, pe_un un_neg pe_w, ?_⟩
  refine ha ρ μ s σ H _ hs hm (h.bind fun u μ1 x H1 ρ1 t1 r1 h1 => ?_)
  split at h1
  · cases r1
    exact ⟨_, rfl, h1.ok (Stp.refl t1.mem) .int⟩
  · exact h1.elim

/-! ### comparisons -/
def uCmp (p : Int → Int → Bool) (q : Str → Str → Option Bool) (u w : U) (μ : Mem) : Res U := match u, w with
  | .int i, .int j => .ok (.bl (p i j)) μ
  | .str a, .str b => resB (q a b) μ
  | _, _ => .bad
def strLt (a b : Str) : Bool := PySem.Spec.ltCps a.cps.toList b.cps.toList
def uLt : U → U → Mem → Res U := uCmp (fun i j => decide (i < j)) fun a b => some (strLt a b)
def uLe : U → U → Mem → Res U := uCmp (fun i j => decide (i ≤ j)) fun a b => some (!strLt b a)
def uGt : U → U → Mem → Res U := uCmp (fun i j => decide (j < i)) fun _ _ => none
def uGe : U → U → Mem → Res U := uCmp (fun i j => decide (j ≤ i)) fun _ _ => none
theorem os_cmp {op : CmpOp} {p : Int → Int → Bool} {q : Str → Str → Option Bool} (h1 : OpR X (compareOp op) (rI0 fun i j => .bl (p i j)))
    (h2 : ∀ a b c, q a b = some c → OpR X (compareOp op) (fun x y H Q => x = .str a ∧ y = .str b ∧ Q (.bl c) H)) : OpS X W (compareOp op) (uCmp p q) := by
  intro ρ μ σ H u w x y Q hm ru rw' h
  unfold uCmp at h
  split at h
  · cases ru; cases rw'
    exact ⟨_, h1, _, _, rfl, rfl, h.ok (Stp.refl hm) .bl⟩
  · rename_i a b
    cases ru; cases rw'
    cases e : q a b with
    | none => rw [e] at h; exact h.elim
    | some c =>
      rw [e] at h
      exact ⟨_, h2 a b c e, rfl, rfl, h.ok (Stp.refl hm) .bl⟩
  · exact h.elim
theorem os_lt : OpS X W (compareOp .Lt) uLt := os_cmp op_lt fun a b c e => by
  cases e
  intro pins s σ H x y v u Q I rx ry ⟨ex, ey, q⟩
  exact op_lt_str pins s σ H x y v u Q I rx ry ⟨a, b, ex, ey, by rw [← PyProof.Rows.ltCps_eq]; exact q⟩
theorem os_le : OpS X W (compareOp .LtE) uLe := os_cmp op_le fun a b c e => by
  cases e
  intro pins s σ H x y v u Q I rx ry ⟨ex, ey, q⟩
  exact op_le_str pins s σ H x y v u Q I rx ry ⟨a, b, ex, ey, by rw [← PyProof.Rows.ltCps_eq]; exact q⟩
theorem os_gt : OpS X W (compareOp .Gt) uGt := os_cmp op_gt fun a b c e => nomatch e
theorem os_ge : OpS X W (compareOp .GtE) uGe := os_cmp op_ge fun a b c e => nomatch e
def uIsN (u w : U) (μ : Mem) : Res U := match w, u with
  | .non, .non => .ok (.bl true) μ
  | .non, _ => .ok (.bl false) μ
  | _, _ => .bad
def uNotN (u w : U) (μ : Mem) : Res U := match w, u with
  | .non, .non => .ok (.bl false) μ
  | .non, _ => .ok (.bl true) μ
  | _, _ => .bad
theorem os_isN : OpS X W (compareOp .Is) uIsN := by
  intro ρ μ σ H u w x y Q hm ru rw' h
  unfold uIsN at h
  split at h
  · cases ru; cases rw'
    exact ⟨_, op_isN, rfl, h.ok (Stp.refl hm) .bl⟩
  · rename_i hn
    cases rw'
    have e : decide (x = V.non) = false := decide_eq_false (fun q => by subst q; cases ru; exact hn rfl)
    exact ⟨_, op_isN, rfl, by rw [e]; exact h.ok (Stp.refl hm) .bl⟩
  · exact h.elim
theorem os_notN : OpS X W (compareOp .IsNot) uNotN := by
  intro ρ μ σ H u w x y Q hm ru rw' h
  unfold uNotN at h
  split at h
  · cases ru; cases rw'
    exact ⟨_, op_notN, rfl, h.ok (Stp.refl hm) .bl⟩
  · rename_i hn
    cases rw'
    have e : decide (x = V.non) = false := decide_eq_false (fun q => by subst q; cases ru; exact hn rfl)
    exact ⟨_, op_notN, rfl, by rw [e]; exact h.ok (Stp.refl hm) .bl⟩
  · exact h.elim
/-- a < b < c -/
def fChain (f g : U → U → Mem → Res U) (a b c : FE) : FE := fun s μ => (a s μ).bind fun x μ1 => (b s μ1).bind fun y μ2 => (f x y μ2).bind fun z μ3 => match z with
  | .bl true => (c s μ3).bind fun w μ4 => g y w μ4
  | .bl false => .ok (.bl false) μ3
  | _ => .bad
theorem ce_chain {op op' : CmpOp} {a b c : Expr} {f g : U → U → Mem → Res U} {ma mb mc : FE} {pos : Pos} (ho : OpS X W (compareOp op) f) (ho' : OpS X W (compareOp op') g) (ha : CE X W a ma) (hb : CE X W b mb) (hc : CE X W c mc)
    (hch : ∀ {r r' : R2} {ta tb tc : TE}, OpR X (compareOp op) r → OpR X (compareOp op') r' → PE X a ta → PE X b tb → PE X c tc → PE X (.Compare a [op, op'] [b, c] pos) (tChain r r' ta tb tc)) : CE X W (.Compare a [op, op'] [b, c] pos) (fChain f g ma mb mc) := by
  intro ρ μ s σ H Q hs hm h
  refine ⟨_, hch op_w op_w pe_w pe_w pe_w, ?_⟩
  refine ha ρ μ s σ H _ hs hm (h.bind fun u μ1 x H1 ρ1 t1 r1 h1 => ?_)
  refine hb ρ1 μ1 s σ H1 _ (t1.s hs) t1.mem (h1.bind fun w μ2 y H2 ρ2 t2 r2 h2 => ?_)
  refine ho ρ2 μ2 σ H2 u w x y _ t2.mem (t2.v r1) r2 (h2.bind fun z μ3 v3 H3 ρ3 t3 r3 h3 => ?_)
  split at h3
  · cases r3
    refine ⟨true, rfl, ?_⟩
    refine iteT (hc ρ3 μ3 s σ H3 _ (t3.s (t2.s (t1.s hs))) t3.mem (h3.bind fun z' μ4 v4 H4 ρ4 t4 r4 h4 => ?_))
    exact ho' ρ4 μ4 σ H4 _ _ _ _ Q t4.mem (t4.v (t3.v r2)) r4 h4
  · cases r3
    exact ⟨false, rfl, iteF (h3.ok (Stp.refl t3.mem) .bl)⟩
  · exact h3.elim

/-! ### truth, tests -/
def truU (μ : Mem) : U → Option Bool
  | .non => some false
  | .bl b => some b
  | .int i => some (i != 0)
  | .str s => if s.length ≤ lim then some ((s.length : Int) != 0) else none
  | .tup us => some (!us.isEmpty)
  | .ref i => match μ[i]? with
    | some (.lst us) => some (!us.isEmpty)
    | some (.dct kvs) => some (!kvs.isEmpty)
    | _ => none
  | .frl us => some (!us.isEmpty)
theorem RepVs.empty {K : PySem.W.Frag} {H : Hp} {ρ : List Addr} {us : List U} {vs : List V} (r : RepVs K H ρ us vs) : us.isEmpty = vs.isEmpty := by
  cases r <;> rfl
theorem map_empty {α β γ : Type} {f : α → γ} {g : β → γ} {xs : List α} {ys : List β} (h : xs.map f = ys.map g) : xs.isEmpty = ys.isEmpty := by
  cases xs <;> cases ys <;> simp_all
theorem truU_ok {K : PySem.W.Frag} {H : Hp} {ρ : List Addr} {μ : Mem} (hm : RepM K H ρ μ) {u : U} {v : V} {b : Bool} (r : RepV K H ρ u v) (e : truU μ u = some b) : TruV K v H b := by
  cases r with
  | non => cases e; rfl
  | bl => cases e; rfl
  | int => cases e; rfl
  | str hs =>
    simp only [truU] at e
    split at e
    · cases e; exact ⟨lim_le (by assumption), rfl⟩
    · cases e
  | tup hs hr =>
    cases e
    exact .inr (.inl ⟨_, hs, by rw [hr.empty]⟩)
  | ref hr =>
    obtain ⟨c, hc, rc⟩ := hm.at hr
    simp only [truU, hc] at e
    cases c with
    | lst us => obtain ⟨vs, q, r⟩ := rc; cases e; exact .inl ⟨vs, .inl (.inl q), by rw [r.empty]⟩
    | dct us => obtain ⟨vs, q, r, _⟩ := rc; cases e; exact .inr (.inr ⟨vs, q, by rw [map_empty r]⟩)
    | _ => cases e
  | frl hs hr =>
    cases e
    exact .inl ⟨_, hs.sq, by rw [hr.empty]⟩
def tst (a : FE) : FT := fun s μ => (a s μ).bind fun u μ1 => match truU μ1 u with
  | some b => .ok b μ1
  | none => .bad
theorem ct_val {a : Expr} {ma : FE} (ha : CE X W a ma) (he : ∀ whole, isTrue a X.env whole = (do let v ← whole; standAt a.pos; holding [v] (truthy v)) := by intro _; rfl) : CT X W a (tst ma) := by
  intro ρ μ s σ H Q hs hm h
  refine ⟨_, pt_truth pe_w he, ?_⟩
  refine ha ρ μ s σ H _ hs hm (h.bind fun u μ1 x H1 ρ1 t1 r1 h1 => ?_)
  cases e : truU μ1 u with
  | none => rw [e] at h1; exact h1.elim
  | some b =>
    rw [e] at h1
    exact ⟨b, truU_ok t1.mem r1 e, h1.ok (Stp.refl t1.mem) rfl⟩
/-- a comparison as a test -/
def tstB (a : FE) : FT := fun s μ => (a s μ).bind fun u μ1 => match u with
  | .bl b => .ok b μ1
  | _ => .bad
theorem ct_cmp {op : CmpOp} {a b : Expr} {f : U → U → Mem → Res U} {ma mb : FE} {pos : Pos} (ho : OpS X W (compareOp op) f) (ha : CE X W a ma) (hb : CE X W b mb) (hm0 : behindInMarks op b = false) : CT X W (.Compare a [op] [b] pos) (tstB (fOp f ma mb)) := by
  intro ρ μ s σ H Q hs hm h
  refine ⟨_, pt_cmpR op_w pe_w pe_w hm0, ?_⟩
  have h' : Post X W σ relB ρ H ((ma s μ).bind fun u μ1 => (mb s μ1).bind fun w μ2 => (f u w μ2).bind fun z μ3 => match z with
    | .bl b => .ok b μ3
    | _ => .bad) Q := by
    have e : tstB (fOp f ma mb) s μ = ((ma s μ).bind fun u μ1 => (mb s μ1).bind fun w μ2 => (f u w μ2).bind fun z μ3 => match z with
      | .bl b => .ok b μ3
      | _ => .bad) := by
      unfold tstB fOp
      cases ma s μ with
      | ok u μ1 =>
        show Res.bind (Res.bind (mb s μ1) _) _ = Res.bind (mb s μ1) _
        cases mb s μ1 <;> rfl
      | ex c m => rfl
      | bad => rfl
    rw [← e]; exact h
  refine ha ρ μ s σ H _ hs hm (h'.bind fun u μ1 x H1 ρ1 t1 r1 h1 => ?_)
  refine hb ρ1 μ1 s σ H1 _ (t1.s hs) t1.mem (h1.bind fun w μ2 y H2 ρ2 t2 r2 h2 => ?_)
  refine ho ρ2 μ2 σ H2 u w x y _ t2.mem (t2.v r1) r2 (h2.bind fun z μ3 v H3 ρ3 t3 r3 h3 => ?_)
  split at h3
  · cases r3
    exact ⟨_, rfl, h3.ok (Stp.refl t3.mem) rfl⟩
  · exact h3.elim
theorem ct_chain {op op' : CmpOp} {a b c : Expr} {f g : U → U → Mem → Res U} {ma mb mc : FE} {pos : Pos} (ho : OpS X W (compareOp op) f) (ho' : OpS X W (compareOp op') g) (ha : CE X W a ma) (hb : CE X W b mb) (hc : CE X W c mc)
    (hch : ∀ {r r' : R2} {ta tb tc : TE}, OpR X (compareOp op) r → OpR X (compareOp op') r' → PE X a ta → PE X b tb → PE X c tc → PT X (.Compare a [op, op'] [b, c] pos) (tTest (L2.tChain r r' ta tb tc))) : CT X W (.Compare a [op, op'] [b, c] pos) (tstB (fChain f g ma mb mc)) := by
  intro ρ μ s σ H Q hs hm h
  refine ⟨_, hch op_w op_w pe_w pe_w pe_w, ?_⟩
  have h' : Post X W σ relB ρ H ((ma s μ).bind fun x μ1 => (mb s μ1).bind fun y μ2 => (f x y μ2).bind fun z μ3 => match z with
    | .bl true => (mc s μ3).bind fun w μ4 => (g y w μ4).bind fun z μ3 => match z with
      | .bl b => .ok b μ3
      | _ => .bad
    | .bl false => .ok false μ3
    | _ => .bad) Q := by
    have e : tstB (fChain f g ma mb mc) s μ = ((ma s μ).bind fun x μ1 => (mb s μ1).bind fun y μ2 => (f x y μ2).bind fun z μ3 => match z with
      | .bl true => (mc s μ3).bind fun w μ4 => (g y w μ4).bind fun z μ3 => match z with
        | .bl b => .ok b μ3
        | _ => .bad
      | .bl false => .ok false μ3
      | _ => .bad) := by
      unfold tstB fChain
      cases ma s μ with
      | ok u μ1 =>
        show Res.bind (Res.bind (mb s μ1) _) _ = Res.bind (mb s μ1) _
        cases mb s μ1 with
        | ok w μ2 =>
          show Res.bind (Res.bind (f u w μ2) _) _ = Res.bind (f u w μ2) _
          cases f u w μ2 with
          | ok z μ3 =>
            cases z with
            | bl b =>
              cases b with
              | true =>
                show Res.bind (Res.bind (mc s μ3) _) _ = Res.bind (mc s μ3) _
                cases mc s μ3 <;> rfl
              | false => rfl
            | _ => rfl
          | ex c m => rfl
          | bad => rfl
        | ex c m => rfl
        | bad => rfl
      | ex c m => rfl
      | bad => rfl
    rw [← e]; exact h
  refine ha ρ μ s σ H _ hs hm (h'.bind fun u μ1 x H1 ρ1 t1 r1 h1 => ?_)
  refine hb ρ1 μ1 s σ H1 _ (t1.s hs) t1.mem (h1.bind fun w μ2 y H2 ρ2 t2 r2 h2 => ?_)
  refine ho ρ2 μ2 σ H2 u w x y _ t2.mem (t2.v r1) r2 (h2.bind fun z μ3 v3 H3 ρ3 t3 r3 h3 => ?_)
  split at h3
  · cases r3
    refine ⟨true, rfl, ?_⟩
    refine iteT (hc ρ3 μ3 s σ H3 _ (t3.s (t2.s (t1.s hs))) t3.mem (h3.bind fun z' μ4 v4 H4 ρ4 t4 r4 h4 => ?_))
    refine ho' ρ4 μ4 σ H4 _ _ _ _ _ t4.mem (t4.v (t3.v r2)) r4 (h4.bind fun z μ5 v H5 ρ5 t5 r5 h5 => ?_)
    split at h5
    · cases r5
      exact ⟨_, rfl, h5.ok (Stp.refl t5.mem) rfl⟩
    · exact h5.elim
  · cases r3
    exact ⟨false, rfl, iteF ⟨false, rfl, h3.ok (Stp.refl t3.mem) rfl⟩⟩
  · exact h3.elim
def tNt (t : FT) : FT := fun s μ => (t s μ).bind fun b μ1 => .ok (!b) μ1
theorem ct_not {a : Expr} {ta : FT} {pos : Pos} (ha : CT X W a ta) : CT X W (.UnaryOp .Not a pos) (tNt ta) := by
  intro ρ μ s σ H Q hs hm h
  refine ⟨_, pt_not pt_w, ?_⟩
  refine ha ρ μ s σ H _ hs hm (h.bind fun b μ1 x H1 ρ1 t1 r1 h1 => ?_)
  cases r1
  exact h1.ok (Stp.refl t1.mem) rfl
def tAn (t u : FT) : FT := fun s μ => (t s μ).bind fun b μ1 => match b with
  | true => u s μ1
  | false => .ok false μ1
def tOr' (t u : FT) : FT := fun s μ => (t s μ).bind fun b μ1 => match b with
  | true => .ok true μ1
  | false => u s μ1
/-- chains of and, or -/
def WW (X : Cx) (e : Expr) : TT := fun σ H Q => ∃ t, PW X e t ∧ t σ H Q
theorem pw_w {X : Cx} {e : Expr} : PW X e (WW X e) := ⟨fun wh pins s σ H Q I ⟨_, h, q⟩ => h.run wh pins s σ H Q I q⟩
def CW (X : Cx) (W : WX) (e : Expr) (m : FT) : Prop := ∀ ρ μ s σ H Q, RepS X.K H ρ s σ → RepM X.K H ρ μ → Post X W σ relB ρ H (m s μ) Q → WW X e σ H Q
theorem CW.ct {e : Expr} {m : FT} (h : CW X W e m) : CT X W e m := fun ρ μ s σ H Q hs hm p => by
  obtain ⟨t, h1, h2⟩ := h ρ μ s σ H Q hs hm p
  exact ⟨t, h1.pt, h2⟩
theorem cw_and1 {a : Expr} {ta : FT} {pos : Pos} (ha : CT X W a ta) : CW X W (.BoolOp .And [a] pos) ta := fun ρ μ s σ H Q hs hm p => ⟨_, pw_and1 pt_w, ha ρ μ s σ H Q hs hm p⟩
theorem cw_or1 {a : Expr} {ta : FT} {pos : Pos} (ha : CT X W a ta) : CW X W (.BoolOp .Or [a] pos) ta := fun ρ μ s σ H Q hs hm p => ⟨_, pw_or1 pt_w, ha ρ μ s σ H Q hs hm p⟩
theorem cw_and {a b : Expr} {rest : List Expr} {ta tb : FT} {pos : Pos} (ha : CT X W a ta) (hb : CW X W (.BoolOp .And (b :: rest) pos) tb) : CW X W (.BoolOp .And (a :: b :: rest) pos) (tAn ta tb) := by
  intro ρ μ s σ H Q hs hm h
  refine ⟨_, pw_and pt_w pw_w, ?_⟩
  refine ha ρ μ s σ H _ hs hm (h.bind fun b μ1 x H1 ρ1 t1 r1 h1 => ?_)
  cases r1
  cases b with
  | true => exact iteT (hb ρ1 μ1 s σ H1 Q (t1.s hs) t1.mem h1)
  | false => exact iteF (h1.ok (Stp.refl t1.mem) rfl)
theorem cw_or {a b : Expr} {rest : List Expr} {ta tb : FT} {pos : Pos} (ha : CT X W a ta) (hb : CW X W (.BoolOp .Or (b :: rest) pos) tb) : CW X W (.BoolOp .Or (a :: b :: rest) pos) (tOr' ta tb) := by
  intro ρ μ s σ H Q hs hm h
  refine ⟨_, pw_or pt_w pw_w, ?_⟩
  refine ha ρ μ s σ H _ hs hm (h.bind fun b μ1 x H1 ρ1 t1 r1 h1 => ?_)
  cases r1
  cases b with
  | true => exact iteT (h1.ok (Stp.refl t1.mem) rfl)
  | false => exact iteF (hb ρ1 μ1 s σ H1 Q (t1.s hs) t1.mem h1)
/-- as values: all but the last are True or False -/
def fAnd (a b : FE) : FE := fun s μ => (a s μ).bind fun u μ1 => match u with
  | .bl true => b s μ1
  | .bl false => .ok (.bl false) μ1
  | _ => .bad
def fOr (a b : FE) : FE := fun s μ => (a s μ).bind fun u μ1 => match u with
  | .bl true => .ok (.bl true) μ1
  | .bl false => b s μ1
  | _ => .bad
theorem ce_one {op : BoolOp} {a : Expr} {ma : FE} {pos : Pos} (ha : CE X W a ma) : CE X W (.BoolOp op [a] pos) ma := fun ρ μ s σ H Q hs hm p => ⟨_, pe_one pe_w, ha ρ μ s σ H Q hs hm p⟩
theorem ce_and {a b : Expr} {rest : List Expr} {ma mb : FE} {pos : Pos} (ha : CE X W a ma) (hb : CE X W (.BoolOp .And (b :: rest) pos) mb) : CE X W (.BoolOp .And (a :: b :: rest) pos) (fAnd ma mb) := by
  intro ρ μ s σ H Q hs hm h
  refine ⟨_, pe_and pe_w pe_w, ?_⟩
  refine ha ρ μ s σ H _ hs hm (h.bind fun b μ1 x H1 ρ1 t1 r1 h1 => ?_)
  split at h1
  · cases r1
    exact ⟨_, rfl, iteT (hb ρ1 μ1 s σ H1 Q (t1.s hs) t1.mem h1)⟩
  · cases r1
    exact ⟨_, rfl, iteF (h1.ok (Stp.refl t1.mem) .bl)⟩
  · exact h1.elim
theorem ce_or {a b : Expr} {rest : List Expr} {ma mb : FE} {pos : Pos} (ha : CE X W a ma) (hb : CE X W (.BoolOp .Or (b :: rest) pos) mb) : CE X W (.BoolOp .Or (a :: b :: rest) pos) (fOr ma mb) := by
  intro ρ μ s σ H Q hs hm h
  refine ⟨_, pe_or pe_w pe_w, ?_⟩
  refine ha ρ μ s σ H _ hs hm (h.bind fun b μ1 x H1 ρ1 t1 r1 h1 => ?_)
  split at h1
  · cases r1
    exact ⟨_, rfl, iteT (h1.ok (Stp.refl t1.mem) .bl)⟩
  · cases r1
    exact ⟨_, rfl, iteF (hb ρ1 μ1 s σ H1 Q (t1.s hs) t1.mem h1)⟩
  · exact h1.elim
def fNot (a : FE) : FE := fun s μ => (a s μ).bind fun u μ1 => match u with
  | .bl b => .ok (.bl (!b)) μ1
  | _ => .bad
theorem ce_not {a : Expr} {ma : FE} {pos : Pos} (ha : CE X W a ma) : CE X W (.UnaryOp .Not a pos) (fNot ma) := by
  intro ρ μ s σ H Q hs hm h
  refine ⟨_, pe_not pe_w, ?_⟩
  refine ha ρ μ s σ H _ hs hm (h.bind fun b μ1 x H1 ρ1 t1 r1 h1 => ?_)
  split at h1
  · cases r1
    exact ⟨_, rfl, h1.ok (Stp.refl t1.mem) .bl⟩
  · exact h1.elim
def fIf (t : FT) (a b : FE) : FE := fun s μ => (t s μ).bind fun c μ1 => match c with
  | true => a s μ1
  | false => b s μ1
theorem ce_if {c a b : Expr} {tc : FT} {ma mb : FE} {pos : Pos} (hc : CT X W c tc) (ha : CE X W a ma) (hb : CE X W b mb) : CE X W (.IfExp c a b pos) (fIf tc ma mb) := by
  intro ρ μ s σ H Q hs hm h
  refine ⟨_, pe_ifExp pt_w pe_w pe_w, ?_⟩
  refine hc ρ μ s σ H _ hs hm (h.bind fun b μ1 x H1 ρ1 t1 r1 h1 => ?_)
  cases r1
  cases b with
  | true => exact iteT (ha ρ1 μ1 s σ H1 Q (t1.s hs) t1.mem h1)
  | false => exact iteF (hb ρ1 μ1 s σ H1 Q (t1.s hs) t1.mem h1)

/-! ### arguments, displays -/
def aNil : FA := fun _ μ => .ok [] μ
def aCons (a : FE) (r : FA) : FA := fun s μ => (a s μ).bind fun u μ1 => (r s μ1).bind fun us μ2 => .ok (u :: us) μ2
theorem ca_nil : CA X W [] aNil := fun ρ μ s σ H Q hs hm h => ⟨_, pa_nil, h.ok (Stp.refl hm) .nil⟩
theorem ca_cons {e : Expr} {es : List Expr} {me : FE} {mr : FA} (he : CE X W e me) (hr : CA X W es mr) (hse : starEach (e :: es) X.env = (false, eval e X.env) :: starEach es X.env := by rfl) : CA X W (e :: es) (aCons me mr) := by
  intro ρ μ s σ H Q hs hm h
  refine ⟨_, pa_cons pe_w pa_w hse, ?_⟩
  refine he ρ μ s σ H _ hs hm (h.bind fun u μ1 x H1 ρ1 t1 r1 h1 => ?_)
  refine hr ρ1 μ1 s σ H1 _ (t1.s hs) t1.mem (h1.bind fun us μ2 xs H2 ρ2 t2 r2 h2 => ?_)
  exact h2.ok (Stp.refl t2.mem) (.cons (t2.v r1) r2)
def fTup (a : FA) : FE := fun s μ => (a s μ).bind fun us μ1 => if us.length ≤ lim then .ok (.tup us) μ1 else .bad
def fLst (a : FA) : FE := fun s μ => (a s μ).bind fun us μ1 => if us.length ≤ lim then .ok (.ref μ1.length) (μ1 ++ [.lst us]) else .bad
theorem ce_tup {es : List Expr} {ma : FA} {x1 pos} (ha : CA X W es ma) : CE X W (.Tuple es x1 pos) (fTup ma) := by
  intro ρ μ s σ H Q hs hm h
  refine ⟨_, pe_tup pa_w, ?_⟩
  refine ha ρ μ s σ H _ hs hm (h.bind fun us μ1 vs H1 ρ1 t1 r1 h1 => ?_)
  split at h1
  · exact ⟨by rw [← RepVs.length r1]; exact lim_le (by assumption), fun p np => h1.ok (Stp.temp t1.mem np) (newT np r1)⟩
  · exact h1.elim
theorem ce_lst {es : List Expr} {ma : FA} {pos : Pos} (ha : CA X W es ma) : CE X W (.List es pos) (fLst ma) := by
  intro ρ μ s σ H Q hs hm h
  refine ⟨_, pe_lst pa_w, ?_⟩
  refine ha ρ μ s σ H _ hs hm (h.bind fun us μ1 vs H1 ρ1 t1 r1 h1 => ?_)
  split at h1
  · exact ⟨by rw [← RepVs.length r1]; exact lim_le (by assumption), fun p np => h1.ok (newL t1.mem np r1) (refN t1.mem)⟩
  · exact h1.elim
end
end Dg
/-! Dg3: calls of built-ins, subscripts, slices, dicts, methods. -/
namespace Dg
open PySem PySem.Spec PyProof.Rows L2
section
variable {X : Cx} {W : WX} {k : Nat}

/-! ### calls of built-ins by value -/
def CallW (X : Cx) (f : Value) : List V → Hp → VK → Prop := fun vs H Q => ∃ r, CallR X f r ∧ r vs H Q
theorem call_w {f : Value} : CallR X f (CallW X f) := fun pins s σ H xs us Q I rx ⟨_, h, q⟩ => h pins s σ H xs us Q I rx q
def CallS (X : Cx) (W : WX) (f : Value) (g : List U → Mem → Res U) : Prop := ∀ ρ μ σ H us vs Q, RepM X.K H ρ μ → RepVs X.K H ρ us vs → Post X W σ relV ρ H (g us μ) Q → CallW X f vs H Q
def fCall (g : List U → Mem → Res U) (a : FA) : FE := fun s μ => (a s μ).bind g
theorem ce_callB {id : String} {x : Str} {e : Expr} {es : List Expr} {ma : FA} {g : List U → Mem → Res U} {p pos : Pos} (hc : CallS X W (.builtin id) g) (hg : Gl X x) (hm : X.mg x = none) (hv : bootBuiltins x = some (.builtin id)) (ha : CA X W (e :: es) ma)
    (hp : ∀ {r : List V → Hp → VK → Prop} {t : TA}, CallR X (.builtin id) r → PA X (e :: es) t → PE X (.Call (.Name x p) (e :: es) [] pos) (tCB r t)) : CE X W (.Call (.Name x p) (e :: es) [] pos) (fCall g ma) := by
  intro ρ μ s σ H Q hs hm' h
  refine ⟨_, hp call_w pa_w, ?_⟩
  exact ha ρ μ s σ H _ hs hm' (h.bind fun us μ1 vs H1 ρ1 t1 r1 h1 => hc ρ1 μ1 σ H1 us vs Q t1.mem r1 h1)
theorem ce_callT {T : String} {x : Str} {e : Expr} {es : List Expr} {ma : FA} {g : List U → Mem → Res U} {p pos : Pos} (hc : CallS X W (.type T) g) (hg : Gl X x) (hm : X.mg x = none) (hv : bootBuiltins x = some (.type T)) (ha : CA X W (e :: es) ma)
    (hp : ∀ {r : List V → Hp → VK → Prop} {t : TA}, CallR X (.type T) r → PA X (e :: es) t → PE X (.Call (.Name x p) (e :: es) [] pos) (tCB r t)) : CE X W (.Call (.Name x p) (e :: es) [] pos) (fCall g ma) := by
  intro ρ μ s σ H Q hs hm' h
  refine ⟨_, hp call_w pa_w, ?_⟩
  exact ha ρ μ s σ H _ hs hm' (h.bind fun us μ1 vs H1 ρ1 t1 r1 h1 => hc ρ1 μ1 σ H1 us vs Q t1.mem r1 h1)

/-- what of a list or tuple is read -/
inductive SeqOf (μ : Mem) : U → List U → Prop
  | tup {us : List U} : SeqOf μ (.tup us) us
  | lst {i : Nat} {us : List U} : μ[i]? = some (.lst us) → SeqOf μ (.ref i) us
def seqU (μ : Mem) : U → Option (List U)
  | .tup us => some us
  | .ref i => match μ[i]? with
    | some (.lst us) => some us
    | _ => none
  | .frl us => some us
  | _ => none
theorem seqU_ok {K : PySem.W.Frag} {H : Hp} {ρ : List Addr} {μ : Mem} (hm : RepM K H ρ μ) {u : U} {v : V} {us : List U} (r : RepV K H ρ u v) (e : seqU μ u = some us) : ∃ a vs, v = .ref a ∧ (SqL K H a vs ∨ SqT K H a vs) ∧ RepVs K H ρ us vs := by
  cases r with
  | tup hs hr => cases e; exact ⟨_, _, rfl, .inr hs, hr⟩
  | ref hr =>
    obtain ⟨c, hc, rc⟩ := hm.at hr
    simp only [seqU, hc] at e
    cases c with
    | lst us => obtain ⟨vs, q, r⟩ := rc; cases e; exact ⟨_, vs, rfl, .inl (.inl (.inl q)), r⟩
    | _ => cases e
  | frl hs hr => cases e; exact ⟨_, _, rfl, .inl hs.sq, hr⟩
  | _ => cases e
/-- a list that stands for itself -/
def lstU (μ : Mem) : U → Option (List U)
  | .ref i => match μ[i]? with
    | some (.lst us) => some us
    | _ => none
  | .frl us => some us
  | _ => none
theorem lstU_ok {K : PySem.W.Frag} {H : Hp} {ρ : List Addr} {μ : Mem} (hm : RepM K H ρ μ) {u : U} {v : V} {us : List U} (r : RepV K H ρ u v) (e : lstU μ u = some us) : ∃ a vs, v = .ref a ∧ SqL K H a vs ∧ RepVs K H ρ us vs := by
  cases r with
  | ref hr =>
    obtain ⟨c, hc, rc⟩ := hm.at hr
    simp only [lstU, hc] at e
    cases c with
    | lst us => obtain ⟨vs, q, r⟩ := rc; cases e; exact ⟨_, vs, rfl, .inl (.inl q), r⟩
    | _ => cases e
  | frl hs hr => cases e; exact ⟨_, _, rfl, hs.sq, hr⟩
  | _ => cases e
def lenU (μ : Mem) : U → Option Nat
  | .str z => if z.length ≤ lim then some z.length else none
  | .tup us => some us.length
  | .ref i => match μ[i]? with
    | some (.lst us) => some us.length
    | some (.dct us) => some us.length
    | _ => none
  | .frl us => some us.length
  | _ => none
def bLen (us : List U) (μ : Mem) : Res U := match us with
  | [u] => match lenU μ u with
    | some n => .ok (.int (n : Int)) μ
    | none => .bad
  | _ => .bad
theorem cs_len : CallS X W (.builtin "len") bLen := by
  intro ρ μ σ H us vs Q hm r h
  unfold bLen at h
  split at h
  · rename_i u
    cases r with
    | cons ru r0 =>
      cases r0
      cases e : lenU μ u with
      | none => rw [e] at h; exact h.elim
      | some n =>
        rw [e] at h
        have q : ∀ H', H' = H → Q (.int (n : Int)) H' := fun H' e => e ▸ h.ok (Stp.refl hm) .int
        cases ru with
        | str hs =>
          simp only [lenU] at e
          split at e
          · cases e; exact ⟨_, call_len, _, _, rfl, ⟨lim_le (by assumption), rfl⟩, q _ rfl⟩
          · cases e
        | tup hs hr => cases e; exact ⟨_, call_len, _, _, rfl, .inr ⟨_, hs, hr.length⟩, q _ rfl⟩
        | frl hs hr => cases e; exact ⟨_, call_len, _, _, rfl, .inl ⟨_, hs.sq, hr.length⟩, q _ rfl⟩
        | ref hr =>
          obtain ⟨c, hc, rc⟩ := hm.at hr
          simp only [lenU, hc] at e
          cases c with
          | lst us => obtain ⟨vs, q1, r⟩ := rc; cases e; exact ⟨_, call_len, _, _, rfl, .inl ⟨_, .inl (.inl q1), r.length⟩, q _ rfl⟩
          | dct us =>
            obtain ⟨vs, q1, r, _⟩ := rc
            cases e
            refine ⟨_, call_lenD, _, vs, rfl, q1, ?_⟩
            have : vs.length = us.length := by have := congrArg List.length r; simpa using this
            rw [this]
            exact q _ rfl
          | _ => cases e
        | _ => cases e
  · exact h.elim
def bInt (us : List U) (μ : Mem) : Res U := match us with
  | [.int i] => .ok (.int i) μ
  | [.bl b] => .ok (.int (if b then 1 else 0)) μ
  | _ => .bad
theorem cs_int : CallS X W (.type "int") bInt := by
  intro ρ μ σ H us vs Q hm r h
  unfold bInt at h
  split at h
  · cases r with
    | cons ru r0 => cases r0; cases ru; exact ⟨_, call_int1, .inl ⟨_, rfl, h.ok (Stp.refl hm) .int⟩⟩
  · cases r with
    | cons ru r0 => cases r0; cases ru; exact ⟨_, call_int1, .inr ⟨_, rfl, h.ok (Stp.refl hm) .int⟩⟩
  · exact h.elim
def bAbs (us : List U) (μ : Mem) : Res U := match us with
  | [.int i] => .ok (.int (if i < 0 then -i else i)) μ
  | _ => .bad
theorem cs_abs : CallS X W (.builtin "abs") bAbs := by
  intro ρ μ σ H us vs Q hm r h
  unfold bAbs at h
  split at h
  · cases r with
    | cons ru r0 => cases r0; cases ru; exact ⟨_, call_abs, _, rfl, h.ok (Stp.refl hm) .int⟩
  · exact h.elim
def intsU : List U → Option (List Int)
  | [] => some []
  | .int i :: us => (intsU us).map (i :: ·)
  | _ :: _ => none
theorem intsU_ok : ∀ {us : List U} {is : List Int}, intsU us = some is → us = is.map U.int
  | [], _, e => by cases e; rfl
  | .int i :: us, _, e => by
    simp only [intsU, Option.map_eq_some_iff] at e
    obtain ⟨a, h, rfl⟩ := e
    rw [intsU_ok h]; rfl
  | .non :: us, _, e => by cases e
  | .bl _ :: us, _, e => by cases e
  | .str _ :: us, _, e => by cases e
  | .tup _ :: us, _, e => by cases e
  | .ref _ :: us, _, e => by cases e
  | .frl _ :: us, _, e => by cases e
def strsU : List U → Option (List Str)
  | [] => some []
  | .str i :: us => (strsU us).map (i :: ·)
  | _ :: _ => none
theorem strsU_ok : ∀ {us : List U} {is : List Str}, strsU us = some is → us = is.map U.str
  | [], _, e => by cases e; rfl
  | .str i :: us, _, e => by
    simp only [strsU, Option.map_eq_some_iff] at e
    obtain ⟨a, h, rfl⟩ := e
    rw [strsU_ok h]; rfl
  | .non :: us, _, e => by cases e
  | .bl _ :: us, _, e => by cases e
  | .int _ :: us, _, e => by cases e
  | .tup _ :: us, _, e => by cases e
  | .ref _ :: us, _, e => by cases e
  | .frl _ :: us, _, e => by cases e
def blsU : List U → Option (List Bool)
  | [] => some []
  | .bl i :: us => (blsU us).map (i :: ·)
  | _ :: _ => none
theorem blsU_ok : ∀ {us : List U} {is : List Bool}, blsU us = some is → us = is.map U.bl
  | [], _, e => by cases e; rfl
  | .bl i :: us, _, e => by
    simp only [blsU, Option.map_eq_some_iff] at e
    obtain ⟨a, h, rfl⟩ := e
    rw [blsU_ok h]; rfl
  | .non :: us, _, e => by cases e
  | .str _ :: us, _, e => by cases e
  | .int _ :: us, _, e => by cases e
  | .tup _ :: us, _, e => by cases e
  | .ref _ :: us, _, e => by cases e
  | .frl _ :: us, _, e => by cases e
def maxI : Int → List Int → Int
  | m, [] => m
  | m, x :: xs => maxI (if x > m then x else m) xs
def minI : Int → List Int → Int
  | m, [] => m
  | m, x :: xs => minI (if x < m then x else m) xs
theorem maxI_ok : ∀ (xs : List Int) (m : Int), (maxI m xs = m ∨ maxI m xs ∈ xs) ∧ m ≤ maxI m xs ∧ ∀ y ∈ xs, y ≤ maxI m xs
  | [], m => ⟨.inl rfl, Int.le_refl _, by simp⟩
  | x :: xs, m => by
    obtain ⟨h1, h2, h3⟩ := maxI_ok xs (if x > m then x else m)
    refine ⟨?_, ?_, fun y hy => ?_⟩
    · rcases h1 with h1 | h1
      · show maxI (if x > m then x else m) xs = m ∨ _
        rw [h1]
        by_cases c : x > m
        · rw [if_pos c]; exact .inr (by show maxI (if x > m then x else m) xs ∈ x :: xs; rw [h1, if_pos c]; exact List.mem_cons_self)
        · rw [if_neg c]; exact .inl rfl
      · exact .inr (List.mem_cons_of_mem _ h1)
    · show m ≤ maxI (if x > m then x else m) xs
      by_cases c : x > m
      · rw [if_pos c] at h2 ⊢; omega
      · rw [if_neg c] at h2 ⊢; omega
    · show y ≤ maxI (if x > m then x else m) xs
      rcases List.mem_cons.mp hy with e | e
      · subst e
        by_cases c : y > m
        · rw [if_pos c] at h2 ⊢; omega
        · rw [if_neg c] at h2 ⊢; omega
      · exact h3 y e
theorem minI_ok : ∀ (xs : List Int) (m : Int), (minI m xs = m ∨ minI m xs ∈ xs) ∧ minI m xs ≤ m ∧ ∀ y ∈ xs, minI m xs ≤ y
  | [], m => ⟨.inl rfl, Int.le_refl _, by simp⟩
  | x :: xs, m => by
    obtain ⟨h1, h2, h3⟩ := minI_ok xs (if x < m then x else m)
    refine ⟨?_, ?_, fun y hy => ?_⟩
    · rcases h1 with h1 | h1
      · show minI (if x < m then x else m) xs = m ∨ _
        rw [h1]
        by_cases c : x < m
        · rw [if_pos c]; exact .inr (by show minI (if x < m then x else m) xs ∈ x :: xs; rw [h1, if_pos c]; exact List.mem_cons_self)
        · rw [if_neg c]; exact .inl rfl
      · exact .inr (List.mem_cons_of_mem _ h1)
    · show minI (if x < m then x else m) xs ≤ m
      by_cases c : x < m
      · rw [if_pos c] at h2 ⊢; omega
      · rw [if_neg c] at h2 ⊢; omega
    · show minI (if x < m then x else m) xs ≤ y
      rcases List.mem_cons.mp hy with e | e
      · subst e
        by_cases c : y < m
        · rw [if_pos c] at h2 ⊢; omega
        · rw [if_neg c] at h2 ⊢; omega
      · exact h3 y e
def bMax (us : List U) (μ : Mem) : Res U := match us with
  | [.int i, .int j] => .ok (.int (if j > i then j else i)) μ
  | [.ref r] => match (lstU μ (.ref r)).bind intsU with
    | some (m :: is) => .ok (.int (maxI m is)) μ
    | _ => .bad
  | _ => .bad
def bMin (us : List U) (μ : Mem) : Res U := match us with
  | [.int i, .int j] => .ok (.int (if j < i then j else i)) μ
  | [.ref r] => match (lstU μ (.ref r)).bind intsU with
    | some (m :: is) => .ok (.int (minI m is)) μ
    | _ => .bad
  | _ => .bad
theorem cs_max (hc : X.calm = true) : CallS X W (.builtin "max") bMax := by
  intro ρ μ σ H us vs Q hm r h
  unfold bMax at h
  split at h
  · cases r with
    | cons ru r0 => cases r0 with | cons rw' r1 => cases r1; cases ru; cases rw'; exact ⟨_, call_max2 hc, _, _, rfl, h.ok (Stp.refl hm) .int⟩
  · rename_i i
    cases r with
    | cons ru r0 =>
      cases r0
      split at h
      · rename_i m is e
        obtain ⟨us, e1, e2⟩ := Option.bind_eq_some_iff.mp e
        obtain ⟨a, vs, rfl, q1, r1⟩ := lstU_ok hm ru e1
        rw [intsU_ok e2] at r1
        rw [r1.ints] at q1
        refine ⟨_, cr_max hc, a, m :: is, rfl, q1, by simp, fun z hz hle => ?_⟩
        have ez : z = maxI m is := by
          obtain ⟨h1, h2, h3⟩ := maxI_ok is m
          have a1 : maxI m is ≤ z := by
            rcases h1 with h1 | h1
            · rw [h1]; exact hle m (by simp)
            · exact hle _ (List.mem_cons_of_mem _ h1)
          have a2 : z ≤ maxI m is := by
            rcases List.mem_cons.mp hz with e | e
            · rw [e]; exact h2
            · exact h3 z e
          omega
        rw [ez]
        exact h.ok (Stp.refl hm) .int
      · exact h.elim
  · exact h.elim
theorem cs_min (hc : X.calm = true) : CallS X W (.builtin "min") bMin := by
  intro ρ μ σ H us vs Q hm r h
  unfold bMin at h
  split at h
  · cases r with
    | cons ru r0 => cases r0 with | cons rw' r1 => cases r1; cases ru; cases rw'; exact ⟨_, call_min2 hc, _, _, rfl, h.ok (Stp.refl hm) .int⟩
  · rename_i i
    cases r with
    | cons ru r0 =>
      cases r0
      split at h
      · rename_i m is e
        obtain ⟨us, e1, e2⟩ := Option.bind_eq_some_iff.mp e
        obtain ⟨a, vs, rfl, q1, r1⟩ := lstU_ok hm ru e1
        rw [intsU_ok e2] at r1
        rw [r1.ints] at q1
        refine ⟨_, cr_min hc, a, m :: is, rfl, q1, by simp, fun z hz hle => ?_⟩
        have ez : z = minI m is := by
          obtain ⟨h1, h2, h3⟩ := minI_ok is m
          have a1 : z ≤ minI m is := by
            rcases h1 with h1 | h1
            · rw [h1]; exact hle m (by simp)
            · exact hle _ (List.mem_cons_of_mem _ h1)
          have a2 : minI m is ≤ z := by
            rcases List.mem_cons.mp hz with e | e
            · rw [e]; exact h2
            · exact h3 z e
          omega
        rw [ez]
        exact h.ok (Stp.refl hm) .int
      · exact h.elim
  · exact h.elim
def bSum (us : List U) (μ : Mem) : Res U := match us with
  | [.ref r] => match (lstU μ (.ref r)).bind intsU with
    | some is => .ok (.int is.sum) μ
    | _ => .bad
  | _ => .bad
theorem cs_sum (hc : X.calm = true) : CallS X W (.builtin "sum") bSum := by
  intro ρ μ σ H us vs Q hm r h
  unfold bSum at h
  split at h
  · cases r with
    | cons ru r0 =>
      cases r0
      split at h
      · rename_i is e
        obtain ⟨us, e1, e2⟩ := Option.bind_eq_some_iff.mp e
        obtain ⟨a, vs, rfl, q1, r1⟩ := lstU_ok hm ru e1
        rw [intsU_ok e2] at r1
        rw [r1.ints] at q1
        exact ⟨_, cr_sum hc, a, is, rfl, q1, h.ok (Stp.refl hm) .int⟩
      · exact h.elim
  · exact h.elim
def bAll (us : List U) (μ : Mem) : Res U := match us with
  | [.ref r] => match (lstU μ (.ref r)).bind blsU with
    | some is => .ok (.bl (is.all id)) μ
    | _ => .bad
  | _ => .bad
def bAny (us : List U) (μ : Mem) : Res U := match us with
  | [.ref r] => match (lstU μ (.ref r)).bind blsU with
    | some is => .ok (.bl (is.any id)) μ
    | _ => .bad
  | _ => .bad
theorem cs_all (hc : X.calm = true) : CallS X W (.builtin "all") bAll := by
  intro ρ μ σ H us vs Q hm r h
  unfold bAll at h
  split at h
  · cases r with
    | cons ru r0 =>
      cases r0
      split at h
      · rename_i is e
        obtain ⟨us, e1, e2⟩ := Option.bind_eq_some_iff.mp e
        obtain ⟨a, vs, rfl, q1, r1⟩ := lstU_ok hm ru e1
        rw [blsU_ok e2] at r1
        rw [r1.bls] at q1
        exact ⟨_, cr_all hc, a, is, rfl, q1, h.ok (Stp.refl hm) .bl⟩
      · exact h.elim
  · exact h.elim
theorem cs_any (hc : X.calm = true) : CallS X W (.builtin "any") bAny := by
  intro ρ μ σ H us vs Q hm r h
  unfold bAny at h
  split at h
  · cases r with
    | cons ru r0 =>
      cases r0
      split at h
      · rename_i is e
        obtain ⟨us, e1, e2⟩ := Option.bind_eq_some_iff.mp e
        obtain ⟨a, vs, rfl, q1, r1⟩ := lstU_ok hm ru e1
        rw [blsU_ok e2] at r1
        rw [r1.bls] at q1
        exact ⟨_, cr_any hc, a, is, rfl, q1, h.ok (Stp.refl hm) .bl⟩
      · exact h.elim
  · exact h.elim
def bList (us : List U) (μ : Mem) : Res U := match us with
  | [u] => match seqU μ u with
    | some xs => .ok (.ref μ.length) (μ ++ [.lst xs])
    | none => .bad
  | _ => .bad
theorem cs_list : CallS X W (.type "list") bList := by
  intro ρ μ σ H us vs Q hm r h
  unfold bList at h
  split at h
  · cases r with
    | cons ru r0 =>
      cases r0
      split at h
      · rename_i xs e
        obtain ⟨a, vs, rfl, q1, r1⟩ := seqU_ok hm ru e
        exact ⟨_, call_list_of, a, vs, rfl, q1, fun p np => h.ok (newL hm np r1) (refN hm)⟩
      · exact h.elim
  · exact h.elim
def bTuple (us : List U) (μ : Mem) : Res U := match us with
  | [u] => match seqU μ u with
    | some xs => .ok (.tup xs) μ
    | none => .bad
  | _ => .bad
theorem cs_tuple : CallS X W (.type "tuple") bTuple := by
  intro ρ μ σ H us vs Q hm r h
  unfold bTuple at h
  split at h
  · cases r with
    | cons ru r0 =>
      cases r0
      split at h
      · rename_i xs e
        obtain ⟨a, vs, rfl, q1, r1⟩ := seqU_ok hm ru e
        refine ⟨_, call_tuple_of, a, vs, rfl, ?_⟩
        rcases q1 with q1 | q1
        · exact .inl ⟨q1, fun p np => h.ok (Stp.temp hm np) (newT np r1)⟩
        · exact .inr ⟨q1, h.ok (Stp.refl hm) (.tup q1 r1)⟩
      · exact h.elim
  · exact h.elim

/-! ### sorted -/
def insI (x : Int) : List Int → List Int
  | [] => [x]
  | y :: ys => if x ≤ y then x :: y :: ys else y :: insI x ys
def sortI : List Int → List Int
  | [] => []
  | x :: xs => insI x (sortI xs)
theorem insI_perm (x : Int) : ∀ ys, (insI x ys).Perm (x :: ys)
  | [] => List.Perm.refl _
  | y :: ys => by
    unfold insI
    split
    · exact List.Perm.refl _
    · exact ((insI_perm x ys).cons y).trans (List.Perm.swap x y ys)
theorem sortI_perm : ∀ xs, (sortI xs).Perm xs
  | [] => List.Perm.refl _
  | x :: xs => (insI_perm x (sortI xs)).trans ((sortI_perm xs).cons x)
theorem insI_sorted (x : Int) : ∀ ys : List Int, ys.Pairwise (· ≤ ·) → (insI x ys).Pairwise (· ≤ ·)
  | [], _ => by simp [insI]
  | y :: ys, h => by
    unfold insI
    rw [List.pairwise_cons] at h
    split
    · rename_i c
      rw [List.pairwise_cons, List.pairwise_cons]
      refine ⟨fun z hz => ?_, h⟩
      rcases List.mem_cons.mp hz with e | e
      · rw [e]; exact c
      · exact Int.le_trans c (h.1 z e)
    · rename_i c
      rw [List.pairwise_cons]
      refine ⟨fun z hz => ?_, insI_sorted x ys h.2⟩
      rcases List.mem_cons.mp ((insI_perm x ys).mem_iff.mp hz) with e | e
      · rw [e]; omega
      · exact h.1 z e
theorem sortI_sorted : ∀ xs, (sortI xs).Pairwise (· ≤ ·)
  | [] => .nil
  | x :: xs => insI_sorted x _ (sortI_sorted xs)
theorem sorted_unique : ∀ {a b : List Int}, a.Perm b → a.Pairwise (· ≤ ·) → b.Pairwise (· ≤ ·) → a = b
  | [], b, p, _, _ => by rw [List.nil_perm.mp p]
  | x :: a, [], p, _, _ => by simp at p
  | x :: a, y :: b, p, ha, hb => by
    rw [List.pairwise_cons] at ha hb
    have hx : x ∈ y :: b := p.mem_iff.mp (by simp)
    have hy : y ∈ x :: a := p.mem_iff.mpr (by simp)
    have e : x = y := by
      rcases List.mem_cons.mp hx with q | q
      · exact q
      · rcases List.mem_cons.mp hy with q2 | q2
        · exact q2.symm
        · exact Int.le_antisymm (ha.1 y q2) (hb.1 x q)
    subst e
    rw [sorted_unique (List.Perm.cons_inv p) ha.2 hb.2]
abbrev leC (a b : List Nat) : Prop := PySem.Spec.ltCps b a = false
theorem leC_refl : ∀ a : List Nat, leC a a
  | [] => rfl
  | a :: r => by
    have := leC_refl r
    simp_all [leC, PySem.Spec.ltCps]
theorem leC_anti : ∀ {a b : List Nat}, leC a b → leC b a → a = b
  | [], [], _, _ => rfl
  | [], _ :: _, h, g => by simp [leC, PySem.Spec.ltCps] at h g
  | _ :: _, [], h, g => by simp [leC, PySem.Spec.ltCps] at h g
  | a :: r, b :: t, h, g => by
    simp only [leC, PySem.Spec.ltCps, Bool.or_eq_false_iff, decide_eq_false_iff_not, Bool.and_eq_false_iff, beq_eq_false_iff_ne] at h g
    have e : a = b := by omega
    subst e
    have h2 : leC r t := by rcases h.2 with q | q; exact absurd rfl q; exact q
    have g2 : leC t r := by rcases g.2 with q | q; exact absurd rfl q; exact q
    rw [leC_anti h2 g2]
theorem leC_trans : ∀ {a b c : List Nat}, leC a b → leC b c → leC a c
  | [], _, [], _, _ => rfl
  | [], _, _ :: _, _, _ => rfl
  | _ :: _, [], _, h, _ => by simp [leC, PySem.Spec.ltCps] at h
  | _ :: _, _ :: _, [], _, g => by simp [leC, PySem.Spec.ltCps] at g
  | a :: r, b :: t, c :: w, h, g => by
    simp only [leC, PySem.Spec.ltCps, Bool.or_eq_false_iff, decide_eq_false_iff_not, Bool.and_eq_false_iff, beq_eq_false_iff_ne] at h g ⊢
    refine ⟨by omega, ?_⟩
    by_cases e : c = a
    · right
      have e1 : b = a := by omega
      have e2 : c = b := by omega
      have h2 : leC r t := by rcases h.2 with q | q; exact absurd e1 q; exact q
      have g2 : leC t w := by rcases g.2 with q | q; exact absurd e2 q; exact q
      exact leC_trans h2 g2
    · left; exact e
theorem leC_total (a b : List Nat) : leC a b ∨ leC b a := by
  induction a generalizing b with
  | nil => cases b <;> simp [leC, PySem.Spec.ltCps]
  | cons x r ih =>
    cases b with
    | nil => right; rfl
    | cons y t =>
      simp only [leC, PySem.Spec.ltCps, Bool.or_eq_false_iff, decide_eq_false_iff_not, Bool.and_eq_false_iff, beq_eq_false_iff_ne]
      by_cases h1 : x < y
      · left; exact ⟨by omega, .inl (by omega)⟩
      · by_cases h2 : y < x
        · right; exact ⟨by omega, .inl (by omega)⟩
        · rcases ih t with q | q
          · left; exact ⟨h2, .inr q⟩
          · right; exact ⟨h1, .inr q⟩
def leS (a b : Str) : Prop := leC a.cps.toList b.cps.toList
theorem leS_anti {a b : Str} (h : leS a b) (g : leS b a) : a = b := by
  have e := leC_anti h g
  cases a with | mk a => cases b with | mk b => exact congrArg Str.mk (Array.toList_inj.mp e)
theorem leS_of_rising : ∀ (r : List Str) (p : Str), risingS p r = true → (p :: r).Pairwise leS
  | [], p, _ => by simp
  | x :: r, p, h => by
    simp only [risingS, Bool.and_eq_true, Bool.not_eq_true'] at h
    have ih := leS_of_rising r x h.2
    rw [List.pairwise_cons] at ih
    rw [List.pairwise_cons, List.pairwise_cons]
    have h1 : leS p x := h.1
    refine ⟨fun z hz => ?_, ih⟩
    rcases List.mem_cons.mp hz with e | e
    · rw [e]; exact h1
    · exact leC_trans h1 (ih.1 z e)
theorem leS_of_sorted : ∀ {r : List Str}, sortedS r = true → r.Pairwise leS
  | [], _ => .nil
  | x :: r, h => leS_of_rising r x h
theorem uniqueS : ∀ {a b : List Str}, a.Perm b → a.Pairwise leS → b.Pairwise leS → a = b
  | [], b, p, _, _ => by rw [List.nil_perm.mp p]
  | x :: a, [], p, _, _ => by simp at p
  | x :: a, y :: b, p, ha, hb => by
    rw [List.pairwise_cons] at ha hb
    have hx : x ∈ y :: b := p.mem_iff.mp (by simp)
    have hy : y ∈ x :: a := p.mem_iff.mpr (by simp)
    have e : x = y := by
      rcases List.mem_cons.mp hx with q | q
      · exact q
      · rcases List.mem_cons.mp hy with q2 | q2
        · exact q2.symm
        · exact leS_anti (ha.1 y q2) (hb.1 x q)
    subst e
    rw [uniqueS (List.Perm.cons_inv p) ha.2 hb.2]
def insS (x : Str) : List Str → List Str
  | [] => [x]
  | y :: ys => if strLt y x then y :: insS x ys else x :: y :: ys
def sortS : List Str → List Str
  | [] => []
  | x :: xs => insS x (sortS xs)
theorem insS_perm (x : Str) : ∀ ys, (insS x ys).Perm (x :: ys)
  | [] => List.Perm.refl _
  | y :: ys => by
    unfold insS
    split
    · exact ((insS_perm x ys).cons y).trans (List.Perm.swap x y ys)
    · exact List.Perm.refl _
theorem sortS_perm : ∀ xs, (sortS xs).Perm xs
  | [] => List.Perm.refl _
  | x :: xs => (insS_perm x (sortS xs)).trans ((sortS_perm xs).cons x)
theorem insS_sorted (x : Str) : ∀ ys : List Str, ys.Pairwise leS → (insS x ys).Pairwise leS
  | [], _ => by simp [insS]
  | y :: ys, h => by
    unfold insS
    rw [List.pairwise_cons] at h
    split
    · rename_i c
      have yx : leS y x := by
        rcases leC_total y.cps.toList x.cps.toList with q | q
        · exact q
        · rw [leC] at q
          unfold strLt at c
          rw [q] at c; cases c
      rw [List.pairwise_cons]
      refine ⟨fun z hz => ?_, insS_sorted x ys h.2⟩
      rcases List.mem_cons.mp ((insS_perm x ys).mem_iff.mp hz) with e | e
      · rw [e]; exact yx
      · exact h.1 z e
    · rename_i c
      have xy : leS x y := by
        unfold strLt at c
        exact Bool.eq_false_iff.mpr c
      rw [List.pairwise_cons, List.pairwise_cons]
      refine ⟨fun z hz => ?_, h⟩
      rcases List.mem_cons.mp hz with e | e
      · rw [e]; exact xy
      · exact leC_trans xy (h.1 z e)
theorem sortS_sorted : ∀ xs, (sortS xs).Pairwise leS
  | [] => .nil
  | x :: xs => insS_sorted x _ (sortS_sorted xs)
def keysS : List (Key × U) → Option (List Str)
  | [] => some []
  | (.inr x, _) :: r => (keysS r).map (x :: ·)
  | _ :: _ => none
theorem keysS_ok : ∀ {us : List (Key × U)} {is : List Str}, keysS us = some is → us.map (·.1) = is.map Sum.inr
  | [], _, e => by cases e; rfl
  | (.inr x, _) :: us, _, e => by
    simp only [keysS, Option.map_eq_some_iff] at e
    obtain ⟨a, h, rfl⟩ := e
    simp [keysS_ok h]
  | (.inl _, _) :: us, _, e => by cases e
def keysI : List (Key × U) → Option (List Int)
  | [] => some []
  | (.inl x, _) :: r => (keysI r).map (x :: ·)
  | _ :: _ => none
theorem keysI_ok : ∀ {us : List (Key × U)} {is : List Int}, keysI us = some is → us.map (·.1) = is.map Sum.inl
  | [], _, e => by cases e; rfl
  | (.inl x, _) :: us, _, e => by
    simp only [keysI, Option.map_eq_some_iff] at e
    obtain ⟨a, h, rfl⟩ := e
    simp [keysI_ok h]
  | (.inr _, _) :: us, _, e => by cases e
def keyOk : Key → Bool
  | .inl _ => true
  | .inr x => PyData.strOk x
/-- sorted: ints; fewer than 64 texts; a dict's fewer than 64 text keys -/
def bSorted (us : List U) (μ : Mem) : Res U := match us with
  | [.ref r] => match μ[r]? with
    | some (.dct kvs) => match keysS kvs with
      | some ks => if ks.length < 64 ∧ ks.all PyData.strOk = true then .ok (.ref μ.length) (μ ++ [.lst ((sortS ks).map U.str)]) else .bad
      | none => match keysI kvs with
        | some ks => if ks.length < 64 then .ok (.ref μ.length) (μ ++ [.lst ((sortI ks).map U.int)]) else .bad
        | none => .bad
    | _ => match lstU μ (.ref r) with
      | some xs => match strsU xs with
        | some ss => if ss.length < 64 then .ok (.ref μ.length) (μ ++ [.lst ((sortS ss).map U.str)]) else .bad
        | none => match intsU xs with
          | some is => .ok (.ref μ.length) (μ ++ [.lst ((sortI is).map U.int)])
          | none => .bad
      | none => .bad
  | _ => .bad
theorem cs_sorted (hc : X.calm = true) : CallS X W (.builtin "sorted") bSorted := by
  intro ρ μ σ H us vs Q hm r h
  unfold bSorted at h
  split at h
  · rename_i i
    cases r with
    | cons ru r0 =>
      cases r0
      split at h
      · rename_i kvs e0
        split at h
        · rename_i ks ek
          split at h
          · rename_i hz
            cases ru with
            | ref hr =>
              obtain ⟨ws, q1, q2, _⟩ := hm.get hr e0
              refine ⟨_, call_sortedD hc, _, ws, ks, rfl, .inl q1, q2.trans (keysS_ok ek), hz.1, fun ys p pm sd np => ?_⟩
              have ey : ys = sortS ks := uniqueS (pm.trans (sortS_perm ks).symm) (leS_of_sorted sd) (sortS_sorted ks)
              subst ey
              exact h.ok (newL hm np (RepVs.ofStrs _ fun x hx => List.all_eq_true.mp hz.2 x ((sortS_perm ks).mem_iff.mp hx))) (refN hm)
          · exact h.elim
        · split at h
          · rename_i ks ek
            split at h
            · rename_i hz
              cases ru with
              | ref hr =>
                obtain ⟨ws, q1, q2, _⟩ := hm.get hr e0
                refine ⟨_, call_sortedDI hc, _, ws, ks, rfl, .inl q1, q2.trans (keysI_ok ek), hz, fun ys p pm sd np => ?_⟩
                have ey : ys = sortI ks := sorted_unique (pm.trans (sortI_perm ks).symm) sd (sortI_sorted ks)
                subst ey
                exact h.ok (newL hm np (RepVs.ofInts _)) (refN hm)
            · exact h.elim
          · exact h.elim
      · split at h
        · rename_i xs e1
          obtain ⟨a, vs, rfl, q1, r1⟩ := lstU_ok hm ru e1
          split at h
          · rename_i ss e2
            split at h
            · rename_i hz
              rw [strsU_ok e2] at r1
              have ok := r1.strsOk
              rw [r1.strs] at q1
              refine ⟨_, cr_sortedS, a, ss, rfl, q1, hz, fun ys p pm sd np => ?_⟩
              have ey : ys = sortS ss := uniqueS (pm.trans (sortS_perm ss).symm) (leS_of_sorted sd) (sortS_sorted ss)
              subst ey
              exact h.ok (newL hm np (RepVs.ofStrs _ fun x hx => ok x ((sortS_perm ss).mem_iff.mp hx))) (refN hm)
            · exact h.elim
          · split at h
            · rename_i is e3
              rw [intsU_ok e3] at r1
              rw [r1.ints] at q1
              refine ⟨_, cr_sortedI, a, is, rfl, q1, fun ys p pm sd np => ?_⟩
              have ey : ys = sortI is := sorted_unique (pm.trans (sortI_perm is).symm) sd (sortI_sorted is)
              subst ey
              exact h.ok (newL hm np (RepVs.ofInts _)) (refN hm)
            · exact h.elim
        · exact h.elim
  · exact h.elim
end
end Dg
/-! Dg4: subscripts, slices, dicts, isinstance, methods. -/
namespace Dg
open PySem PySem.Spec PyProof.Rows L2

/-! ### dicts by their pairs -/
def valU (kus : List (Key × U)) (k : Key) : Option U := (kus.find? fun kv => decide (kv.1 = k)).map (·.2)
def putU (kus : List (Key × U)) (k : Key) (u : U) : List (Key × U) :=
  if (kus.any fun kv => decide (kv.1 = k)) = true then kus.map (fun kv => if kv.1 = k then (kv.1, u) else kv) else kus ++ [(k, u)]
structure RepKV (K : PySem.W.Frag) (H : Hp) (ρ : List Addr) (kus : List (Key × U)) (kvs : List (Key × V)) : Prop where
  keys : kvs.map (·.1) = kus.map (·.1)
  vals : RepVs K H ρ (kus.map (·.2)) (kvs.map (·.2))
section
variable {K : PySem.W.Frag} {H : Hp} {ρ : List Addr}
theorem RepKV.nil : RepKV K H ρ [] [] := ⟨rfl, .nil⟩
theorem RepKV.cons {k : Key} {u : U} {v : V} {kus : List (Key × U)} {kvs : List (Key × V)} (r : RepV K H ρ u v) (h : RepKV K H ρ kus kvs) : RepKV K H ρ ((k, u) :: kus) ((k, v) :: kvs) := ⟨by simp [h.keys], .cons r h.vals⟩
theorem RepKV.uncons {p : Key × U} {kus : List (Key × U)} {ws : List (Key × V)} (h : RepKV K H ρ (p :: kus) ws) : ∃ v kvs, ws = (p.1, v) :: kvs ∧ RepV K H ρ p.2 v ∧ RepKV K H ρ kus kvs := by
  obtain ⟨h1, h2⟩ := h
  cases ws with
  | nil => simp at h1
  | cons w ws =>
    simp only [List.map_cons, List.cons.injEq] at h1
    rw [List.map_cons, List.map_cons] at h2
    cases h2 with
    | cons r1 r2 => exact ⟨w.2, ws, by rw [← h1.1], r1, h1.2, r2⟩
theorem RepKV.unnil {ws : List (Key × V)} (h : RepKV K H ρ [] ws) : ws = [] := by
  have := h.keys
  simpa using this
theorem RepKV.length {kus : List (Key × U)} {kvs : List (Key × V)} (h : RepKV K H ρ kus kvs) : kvs.length = kus.length := by
  have := congrArg List.length h.keys
  simpa using this
theorem RepKV.mono {H' : Hp} {ρ' : List Addr} {kus : List (Key × U)} {kvs : List (Key × V)} (t : TX H H') (e : Ext ρ ρ') (h : RepKV K H ρ kus kvs) : RepKV K H' ρ' kus kvs := ⟨h.keys, h.vals.mono t e⟩
theorem RepKV.val {k : Key} : ∀ {kus : List (Key × U)} {kvs : List (Key × V)}, RepKV K H ρ kus kvs → (∀ u, valU kus k = some u → ∃ v, valV kvs k = some v ∧ RepV K H ρ u v) ∧ (valU kus k = none → valV kvs k = none)
  | [], _, h => by rw [h.unnil]; exact ⟨fun u e => by simp [valU] at e, fun _ => rfl⟩
  | p :: kus, ws, h => by
    obtain ⟨v, kvs, rfl, r, t⟩ := h.uncons
    have ih := RepKV.val (k := k) t
    by_cases e : p.1 = k
    · refine ⟨fun u hu => ⟨v, valV_pos e, ?_⟩, fun hn => ?_⟩
      · simp [valU, e] at hu
        exact hu ▸ r
      · simp [valU, e] at hn
    · rw [valV_neg (p := (p.1, v)) e]
      have : valU (p :: kus) k = valU kus k := by simp [valU, e]
      rw [this]
      exact ih
theorem RepKV.any {k : Key} {kus : List (Key × U)} {kvs : List (Key × V)} (h : RepKV K H ρ kus kvs) : (kvs.any fun kv => decide (kv.1 = k)) = (kus.any fun kv => decide (kv.1 = k)) := by
  have e1 : (kvs.any fun kv => decide (kv.1 = k)) = (kvs.map (·.1)).any fun x => decide (x = k) := by simp [List.any_map, Function.comp_def]
  have e2 : (kus.any fun kv => decide (kv.1 = k)) = (kus.map (·.1)).any fun x => decide (x = k) := by simp [List.any_map, Function.comp_def]
  rw [e1, e2, h.keys]
theorem RepKV.mapPut {k : Key} {u : U} {v : V} (r : RepV K H ρ u v) : ∀ {kus : List (Key × U)} {kvs : List (Key × V)}, RepKV K H ρ kus kvs →
    RepKV K H ρ (kus.map fun kv => if kv.1 = k then (kv.1, u) else kv) (kvs.map fun kv => if kv.1 = k then (kv.1, v) else kv)
  | [], _, h => by rw [h.unnil]; exact .nil
  | p :: kus, ws, h => by
    obtain ⟨v0, kvs, rfl, r0, t⟩ := h.uncons
    have ih := RepKV.mapPut (k := k) r t
    rw [List.map_cons, List.map_cons]
    by_cases e : p.1 = k
    · simp only [e, if_true]; exact ih.cons r
    · simp only [e, if_false]; exact ih.cons (k := p.1) r0
theorem RepKV.snoc {k : Key} {u : U} {v : V} (r : RepV K H ρ u v) {kus : List (Key × U)} {kvs : List (Key × V)} (h : RepKV K H ρ kus kvs) : RepKV K H ρ (kus ++ [(k, u)]) (kvs ++ [(k, v)]) := ⟨by simp [h.keys], by
  rw [List.map_append, List.map_append]; exact h.vals.append (.one r)⟩
theorem RepKV.put {k : Key} {u : U} {v : V} (r : RepV K H ρ u v) {kus : List (Key × U)} {kvs : List (Key × V)} (h : RepKV K H ρ kus kvs) : RepKV K H ρ (putU kus k u) (putK kvs k v) := by
  unfold putU putK
  rw [h.any]
  split
  · exact h.mapPut r
  · exact h.snoc r
theorem dct_of {μ : Mem} (hm : RepM K H ρ μ) {i : Nat} {a : Addr} {kus : List (Key × U)} (e : ρ[i]? = some a) (h : μ[i]? = some (.dct kus)) : ∃ kvs, H a = some (.dK kvs) ∧ RepKV K H ρ kus kvs := by
  obtain ⟨kvs, q, w, r⟩ := hm.get e h
  exact ⟨kvs, q, w, r⟩
theorem newD {μ : Mem} (hm : RepM K H ρ μ) {p : Addr} {kus : List (Key × U)} {kvs : List (Key × V)} (np : H p = none) (r : RepKV K H ρ kus kvs) : Stp K ρ H (ρ ++ [p]) (upd H p (.dK kvs)) (μ ++ [.dct kus]) :=
  Stp.new hm np ⟨kvs, upd_same, r.keys, (r.mono (TX.new np) (Ext.snoc ρ p)).vals⟩
theorem putD {μ : Mem} (hm : RepM K H ρ μ) {i : Nat} {a : Addr} {kus kus' : List (Key × U)} {kvs' : List (Key × V)} (e : ρ[i]? = some a) (h : μ[i]? = some (.dct kus)) (r : RepKV K H ρ kus' kvs') : Stp K ρ H ρ (upd H a (.dK kvs')) (μ.set i (.dct kus')) := by
  have t : TX H (upd H a (.dK kvs')) := (hm.get e h).tx rfl
  exact Stp.put hm e h rfl ⟨kvs', upd_same, r.keys, (r.mono t (Ext.refl _)).vals⟩
theorem putL {μ : Mem} (hm : RepM K H ρ μ) {i : Nat} {a : Addr} {us us' : List U} {vs' : List V} (e : ρ[i]? = some a) (h : μ[i]? = some (.lst us)) (r : RepVs K H ρ us' vs') : Stp K ρ H ρ (upd H a (.lst vs')) (μ.set i (.lst us')) := by
  have t : TX H (upd H a (.lst vs')) := (hm.get e h).tx rfl
  exact Stp.put hm e h rfl ⟨vs', upd_same, r.mono t (Ext.refl _)⟩
end
def keyU : U → Option Key
  | .int i => some (.inl i)
  | .str x => some (.inr x)
  | _ => none
theorem keyU_ok {K : PySem.W.Frag} {H : Hp} {ρ : List Addr} {u : U} {v : V} {k : Key} (r : RepV K H ρ u v) (e : keyU u = some k) : v = kV k := by
  cases r with
  | int => cases e; rfl
  | str _ => cases e; rfl
  | _ => cases e

section
variable {X : Cx} {W : WX} {k : Nat}
/-! ### subscripts -/
def opt {α : Type} (o : Option α) (μ : Mem) : Res α := match o with
  | some a => .ok a μ
  | none => .bad
def dctU (μ : Mem) : U → Option (List (Key × U))
  | .ref i => match μ[i]? with
    | some (.dct kus) => some kus
    | some (.lst _) => none
    | some (.fdc _) => none
    | some (.dtt _) => none
    | some (.fdt _) => none
    | some (.obj _ _) => none
    | none => none
  | _ => none
def ixU (u w : U) (μ : Mem) : Res U := match dctU μ u with
  | some kus => match keyU w with
    | some k => opt (valU kus k) μ
    | none => .bad
  | none => match u, w with
    | .str z, .int i => if z.length ≤ lim then opt ((atI z.cps.toList i).map fun c => .str ⟨#[c]⟩) μ else .bad
    | u, .int i => match seqU μ u with
      | some us => opt (atI us i) μ
      | none => .bad
    | _, _ => .bad
theorem RepVs.atI {K : PySem.W.Frag} {H : Hp} {ρ : List Addr} {us : List U} {vs : List V} {i : Int} {u : U} (r : RepVs K H ρ us vs) (e : atI us i = some u) : ∃ v, L2.atI vs i = some v ∧ RepV K H ρ u v := by
  unfold L2.atI at *
  rw [← r.length]
  obtain ⟨j, h1, h2⟩ := Option.bind_eq_some_iff.mp e
  obtain ⟨v, q, w⟩ := r.get h2
  exact ⟨v, Option.bind_eq_some_iff.mpr ⟨j, h1, q⟩, w⟩
theorem strOk_sign {z : Str} {i : Int} {c : Nat} (h : PyData.strOk z = true) (e : L2.atI z.cps.toList i = some c) : PyData.strOk ⟨#[c]⟩ = true := by
  unfold L2.atI at e
  obtain ⟨j, _, h2⟩ := Option.bind_eq_some_iff.mp e
  have hc : c ∈ z.cps := by
    have := List.mem_of_getElem? h2
    exact Array.mem_toList_iff.mp this
  unfold PyData.strOk at *
  rw [Array.all_eq_true'] at *
  intro x hx
  have : x = c := by simpa using hx
  subst this
  exact h x hc
theorem ix_ok {ρ : List Addr} {μ : Mem} {σ : L2.St} {H : Hp} {u w : U} {x y : V} {Q : VK} (hm : RepM X.K H ρ μ) (ru : RepV X.K H ρ u x) (rw' : RepV X.K H ρ w y) (hd : dctU μ u = none) (h : Post X W σ relV ρ H (ixU u w μ) Q) : IxW X x y H Q := by
  unfold ixU at h
  rw [hd] at h
  simp only at h
  split at h
  · rename_i z i
    cases ru with
    | str hz =>
      cases rw'
      split at h
      · cases e : L2.atI z.cps.toList i with
        | none => rw [e] at h; exact h.elim
        | some c =>
          rw [e] at h
          exact ⟨_, ix_str, z, i, c, rfl, rfl, lim_le (by assumption), e, h.ok (Stp.refl hm) (.str (strOk_sign hz e))⟩
      · exact h.elim
  · rename_i i _
    cases rw'
    cases e : seqU μ u with
    | none => rw [e] at h; exact h.elim
    | some us =>
      rw [e] at h
      obtain ⟨a, vs, rfl, q, r⟩ := seqU_ok hm ru e
      simp only at h
      cases e2 : L2.atI us i with
      | none => rw [e2] at h; exact h.elim
      | some z =>
        rw [e2] at h
        obtain ⟨v, q2, r2⟩ := r.atI e2
        have qq := h.ok (Stp.refl hm) r2
        rcases q with q | q
        · exact ⟨_, ix_list, a, vs, i, v, rfl, rfl, q, q2, qq⟩
        · exact ⟨_, ix_tup, a, vs, i, v, rfl, rfl, q, q2, qq⟩
  · exact h.elim
theorem dget_ok {ρ : List Addr} {μ : Mem} {σ : L2.St} {H : Hp} {u w : U} {x y : V} {Q : VK} {kus : List (Key × U)} (hm : RepM X.K H ρ μ) (ru : RepV X.K H ρ u x) (rw' : RepV X.K H ρ w y) (hd : dctU μ u = some kus) (h : Post X W σ relV ρ H (ixU u w μ) Q) :
    ∃ a v, x = .ref a ∧ DGet H a y (some v) ∧ Q v H := by
  unfold ixU at h
  rw [hd] at h
  simp only at h
  cases ek : keyU w with
  | none => rw [ek] at h; exact h.elim
  | some k =>
    rw [ek] at h
    simp only at h
    cases ev : valU kus k with
    | none => rw [ev] at h; exact h.elim
    | some z =>
      rw [ev] at h
      cases ru with
      | ref hr =>
        rename_i i a
        have e1 : μ[i]? = some (.dct kus) := by
          unfold dctU at hd
          simp only at hd
          split at hd
          all_goals first
            | (cases hd; assumption)
            | (cases hd; done)
        obtain ⟨kvs, q1, r1⟩ := dct_of hm hr e1
        obtain ⟨v, q2, r2⟩ := r1.val.1 z ev
        refine ⟨a, v, rfl, ?_, h.ok (Stp.refl hm) r2⟩
        rw [keyU_ok rw' ek, ← q2]
        exact DGet.k q1
      | _ => simp [dctU] at hd
theorem ce_sub {a b : Expr} {ma mb : FE} {pos : Pos} (G : Good X W (k + 40)) (ha : CE X W a ma) (hb : CE X W b mb) (hp : PlainIx b := by exact fun _ _ => rfl) (hn : NoSl b := by exact fun _ _ => rfl) : CE X W (.Subscript a b pos) (fOp ixU ma mb) := by
  intro ρ μ s σ H Q hs hm h
  by_cases hd : ∃ u μ1 w μ2 kus, ma s μ = .ok u μ1 ∧ mb s μ1 = .ok w μ2 ∧ dctU μ2 u = some kus
  · obtain ⟨u0, μ10, w0, μ20, kus, e1, e2, e3⟩ := hd
    refine ⟨_, pe_dget G.hu pe_w pe_w hn, ?_⟩
    unfold fOp at h
    rw [e1] at h
    refine ha ρ μ s σ H _ hs hm ?_
    rw [e1]
    intro x H1 ρ1 t1 r1
    have h1 : Post X W σ relV ρ H ((mb s μ10).bind fun w μ2 => ixU u0 w μ2) Q := h
    refine hb ρ1 μ10 s σ H1 _ (t1.s hs) t1.mem ?_
    rw [e2] at h1 ⊢
    intro y H2 ρ2 t2 r2
    have h2 : Post X W σ relV ρ H (ixU u0 w0 μ20) Q := h1
    refine dget_ok (W := W) (σ := σ) t2.mem (t2.v r1) r2 e3 ?_
    generalize ixU u0 w0 μ20 = z at h2
    cases z with
    | ok c m2 => exact fun v2 H3 ρ3 t3 q3 => h2 v2 H3 ρ3 ((t1.trans t2).trans t3) q3
    | ex c m2 => exact fun cls H3 ρ3 t3 e => h2 cls H3 ρ3 ((t1.trans t2).trans t3) e
    | bad => exact h2
  · refine ⟨_, pe_ix ix_w pe_w pe_w hp, ?_⟩
    have hd' : ∀ u μ1 w μ2, ma s μ = .ok u μ1 → mb s μ1 = .ok w μ2 → dctU μ2 u = none := fun u μ1 w μ2 e1 e2 => by
      cases e : dctU μ2 u with
      | none => rfl
      | some kus => exact absurd ⟨u, μ1, w, μ2, kus, e1, e2, e⟩ hd
    unfold fOp at h
    refine ha ρ μ s σ H _ hs hm ?_
    cases e1 : ma s μ with
    | ex c m => rw [e1] at h; exact h
    | bad => rw [e1] at h; exact h
    | ok u0 μ10 =>
      rw [e1] at h
      intro x H1 ρ1 t1 r1
      have h1 : Post X W σ relV ρ H ((mb s μ10).bind fun w μ2 => ixU u0 w μ2) Q := h
      refine hb ρ1 μ10 s σ H1 _ (t1.s hs) t1.mem ?_
      cases e2 : mb s μ10 with
      | ex c m => rw [e2] at h1; exact fun cls H3 ρ3 t3 e => h1 cls H3 ρ3 (t1.trans t3) e
      | bad => rw [e2] at h1; exact h1
      | ok w0 μ20 =>
        rw [e2] at h1
        intro y H2 ρ2 t2 r2
        have h2 : Post X W σ relV ρ H (ixU u0 w0 μ20) Q := h1
        refine ix_ok (W := W) (σ := σ) t2.mem (t2.v r1) r2 (hd' u0 μ10 w0 μ20 e1 e2) ?_
        generalize ixU u0 w0 μ20 = z at h2
        cases z with
        | ok c m2 => exact fun v2 H3 ρ3 t3 q3 => h2 v2 H3 ρ3 ((t1.trans t2).trans t3) q3
        | ex c m2 => exact fun cls H3 ρ3 t3 e => h2 cls H3 ρ3 ((t1.trans t2).trans t3) e
        | bad => exact h2

/-! ### slices -/
abbrev FO := Slots → Mem → Res (Option Int)
def WO (X : Cx) (e : Option Expr) : TO := fun σ H Q => ∃ t, PO X e t ∧ t σ H Q
theorem po_w {e : Option Expr} : PO X e (WO X e) := ⟨fun pins s σ H Q I ⟨_, h, q⟩ => h.run pins s σ H Q I q⟩
def CO (X : Cx) (W : WX) (e : Option Expr) (m : FO) : Prop := ∀ ρ μ s σ H Q, RepS X.K H ρ s σ → RepM X.K H ρ μ → Post X W σ relO ρ H (m s μ) Q → WO X e σ H Q
def oNone : FO := fun _ μ => .ok none μ
def oSome (a : FE) : FO := fun s μ => (a s μ).bind fun u μ1 => match u with
  | .int i => .ok (some i) μ1
  | _ => .bad
theorem co_none : CO X W none oNone := fun ρ μ s σ H Q hs hm h => ⟨_, po_none, h.ok (Stp.refl hm) rfl⟩
theorem co_some {e : Expr} {me : FE} (he : CE X W e me) : CO X W (some e) (oSome me) := by
  intro ρ μ s σ H Q hs hm h
  refine ⟨_, po_some pe_w, ?_⟩
  refine he ρ μ s σ H _ hs hm (h.bind fun u μ1 x H1 ρ1 t1 r1 h1 => ?_)
  split at h1
  · cases r1
    exact ⟨_, rfl, h1.ok (Stp.refl t1.mem) rfl⟩
  · exact h1.elim
def SlW (X : Cx) : V → Option Int → Option Int → Hp → VK → Prop := fun x lo hi H Q => ∃ r, SlR X r ∧ r x lo hi H Q
theorem sl_w : SlR X (SlW X) := fun pins s σ H x v vl vu lo hi sl Q I rx hs pl pu ⟨_, h, q⟩ => h pins s σ H x v vl vu lo hi sl Q I rx hs pl pu q
def cutU {α : Type} (xs : List α) (lo hi : Option Int) : List α := (xs.drop (HT.sIx xs.length 0 lo)).take (HT.sIx xs.length xs.length hi - HT.sIx xs.length 0 lo)
theorem RepVs.cut {K : PySem.W.Frag} {H : Hp} {ρ : List Addr} {us : List U} {vs : List V} (r : RepVs K H ρ us vs) (lo hi : Option Int) : RepVs K H ρ (cutU us lo hi) (cutV vs lo hi) := by
  unfold cutU cutV
  rw [r.length]
  exact (r.drop _).take _
def slU (u : U) (lo hi : Option Int) (μ : Mem) : Res U := match u with
  | .str z => if z.length ≤ lim then .ok (.str (cutS z lo hi)) μ else .bad
  | .tup us => .ok (.tup (cutU us lo hi)) μ
  | u => match lstU μ u with
    | some us => .ok (.ref μ.length) (μ ++ [.lst (cutU us lo hi)])
    | none => .bad
def fSl (a : FE) (lo hi : FO) : FE := fun s μ => (a s μ).bind fun u μ1 => (lo s μ1).bind fun l μ2 => (hi s μ2).bind fun h μ3 => slU u l h μ3
theorem strOk_cut {z : Str} (h : PyData.strOk z = true) (lo hi : Option Int) : PyData.strOk (cutS z lo hi) = true := by
  unfold PyData.strOk at *
  rw [Array.all_eq_true'] at *
  intro x hx
  apply h x
  have h1 : x ∈ (z.cps.toList.drop (HT.sIx z.length 0 lo)).take (HT.sIx z.length z.length hi - HT.sIx z.length 0 lo) := by simpa [cutS] using hx
  exact Array.mem_toList_iff.mp (List.mem_of_mem_drop (List.mem_of_mem_take h1))
theorem cut_whole {α : Type} {xs : List α} {lo hi : Option Int} (h : HT.sIx xs.length 0 lo = 0 ∧ HT.sIx xs.length xs.length hi = xs.length) : cutU xs lo hi = xs := by
  unfold cutU
  rw [h.1, h.2, List.drop_zero, Nat.sub_zero, List.take_length]
theorem ce_slice {e : Expr} {lo hi : Option Expr} {me : FE} {ml mh : FO} {p2 pos : Pos} (he : CE X W e me) (hl : CO X W lo ml) (hh : CO X W hi mh) : CE X W (.Subscript e (.Slice lo hi none p2) pos) (fSl me ml mh) := by
  intro ρ μ s σ H Q hs hm h
  refine ⟨_, pe_slice sl_w pe_w po_w po_w, ?_⟩
  refine he ρ μ s σ H _ hs hm (h.bind fun u μ1 x H1 ρ1 t1 r1 h1 => ?_)
  refine hl ρ1 μ1 s σ H1 _ (t1.s hs) t1.mem (h1.bind fun a μ2 a' H2 ρ2 t2 r2 h2 => ?_)
  refine hh ρ2 μ2 s σ H2 _ (t2.s (t1.s hs)) t2.mem (h2.bind fun b μ3 b' H3 ρ3 t3 r3 h3 => ?_)
  cases r2
  cases r3
  have r4 := t3.v (t2.v r1)
  unfold slU at h3
  split at h3
  · cases r4 with
    | str hz =>
      split at h3
      · exact ⟨_, sl_str, _, rfl, lim_le (by assumption), h3.ok (Stp.refl t3.mem) (.str (strOk_cut hz _ _))⟩
      · exact h3.elim
  · cases r4 with
    | tup hs4 hr4 =>
      refine ⟨_, sl_tupA, _, _, rfl, hs4, fun c => ?_, fun c p np => h3.ok (Stp.temp t3.mem np) (newT np (hr4.cut _ _))⟩
      rw [← hr4.length] at c
      rw [cut_whole c] at h3
      exact h3.ok (Stp.refl t3.mem) (.tup hs4 hr4)
  · split at h3
    · rename_i us e1
      obtain ⟨p, vs, rfl, q1, r5⟩ := lstU_ok t3.mem r4 e1
      exact ⟨_, sl_list, _, _, rfl, q1, fun p np => h3.ok (newL t3.mem np (r5.cut _ _)) (refN t3.mem)⟩
    · exact h3.elim

/-! ### in -/
def inU (u w : U) (μ : Mem) : Option Bool := match w with
  | .str z => match u with
    | .str x => some (!(Builtin.Str.occurrences z x 0 z.length 1).isEmpty)
    | _ => none
  | w => match dctU μ w with
    | some kus => match keyU u with
      | some k => some (valU kus k).isSome
      | none => none
    | none => match seqU μ w with
      | some us => match datU μ u, toDs (refD μ 6) us with
        | some d, some ds => if d.depth ≤ 700 then some (ds.any fun y => PyData.eqv y d) else none
        | _, _ => none
      | none => none
def uIn (u w : U) (μ : Mem) : Res U := resB (inU u w μ) μ
def uNin (u w : U) (μ : Mem) : Res U := resB ((inU u w μ).map not) μ
def rInL (K : PySem.W.Frag) (neg : Bool) : R2 := fun x y H Q => ∃ d p xs ds, Dp K H x d ∧ y = .ref p ∧ (SqL K H p xs ∨ SqT K H p xs) ∧ DpAll K H xs ds ∧ d.canLay0 = true ∧ PyData.canLayAll0 ds = true ∧ d.depth ≤ 700 ∧ Q (.bl (if neg then !ds.any fun z => PyData.eqv z d else ds.any fun z => PyData.eqv z d)) H
theorem op_inL (hu : X.A.units + 800 < cLine) : OpR X (compareOp .In) (rInL X.K false) := by
  intro pins s σ H x y v u Q I rx ry h
  obtain ⟨d, p, xs, ds, hd, rfl, hq, he, sd, se, hl, q⟩ := h
  obtain ⟨as, r1⟩ := Dp.reads I d x v hd rx
  have hroom : X.A.units + 1 + min (PyData.depthAll ds) d.depth < cLine := by
    have h2 : min (PyData.depthAll ds) d.depth ≤ d.depth := Nat.min_le_right _ _
    omega
  rcases hq with hq | hq
  · obtain ⟨bs, r2⟩ := Dp.reads I (.list ds) (.ref p) u (.lst hq he) ry
    exact SeqAt.in_list_reads r2 r1 se sd hroom ⟨.bl _, H, I, rfl, q⟩
  · obtain ⟨bs, r2⟩ := Dp.reads I (.tuple ds) (.ref p) u (.tup hq he) ry
    exact SeqAt.in_tuple_reads r2 r1 se sd hroom ⟨.bl _, H, I, rfl, q⟩
theorem op_ninL (hu : X.A.units + 800 < cLine) : OpR X (compareOp .NotIn) (rInL X.K true) := by
  intro pins s σ H x y v u Q I rx ry h
  obtain ⟨d, p, xs, ds, hd, rfl, hq, he, sd, se, hl, q⟩ := h
  obtain ⟨as, r1⟩ := Dp.reads I d x v hd rx
  have hroom : X.A.units + 1 + min (PyData.depthAll ds) d.depth < cLine := by
    have h2 : min (PyData.depthAll ds) d.depth ≤ d.depth := Nat.min_le_right _ _
    omega
  rcases hq with hq | hq
  · obtain ⟨bs, r2⟩ := Dp.reads I (.list ds) (.ref p) u (.lst hq he) ry
    exact SeqAt.notIn_list_reads r2 r1 se sd hroom ⟨.bl _, H, I, rfl, q⟩
  · obtain ⟨bs, r2⟩ := Dp.reads I (.tuple ds) (.ref p) u (.tup hq he) ry
    exact SeqAt.notIn_tuple_reads r2 r1 se sd hroom ⟨.bl _, H, I, rfl, q⟩
/-- in a dict, by values -/
theorem op_inDc (hu : X.A.units + 1 < cLine) : OpR X (compareOp .In) (fun x y H Q => ∃ a o, y = .ref a ∧ DGet H a x o ∧ Q (.bl o.isSome) H) := by
  intro pins s σ H x y v u Q I rx ry h
  obtain ⟨a, o, rfl, g, q⟩ := h
  cases ry
  exact d_in hu I g rx fun s3 I3 => ⟨.bl o.isSome, H, I3, rfl, q⟩
theorem op_ninDc (hu : X.A.units + 1 < cLine) : OpR X (compareOp .NotIn) (fun x y H Q => ∃ a o, y = .ref a ∧ DGet H a x o ∧ Q (.bl (!o.isSome)) H) := by
  intro pins s σ H x y v u Q I rx ry h
  obtain ⟨a, o, rfl, g, q⟩ := h
  cases ry
  exact d_notIn hu I g rx fun s3 I3 => ⟨.bl (!o.isSome), H, I3, rfl, q⟩
theorem dct_at {K : PySem.W.Frag} {ρ : List Addr} {μ : Mem} {H : Hp} {u : U} {x : V} {kus : List (Key × U)} (hm : RepM K H ρ μ) (ru : RepV K H ρ u x) (hd : dctU μ u = some kus) : ∃ a kvs, x = .ref a ∧ H a = some (.dK kvs) ∧ RepKV K H ρ kus kvs := by
  cases ru with
  | ref hr =>
    rename_i i a
    have e1 : μ[i]? = some (.dct kus) := by
      unfold dctU at hd
      simp only at hd
      split at hd
      all_goals first
        | (cases hd; assumption)
        | (cases hd; done)
    obtain ⟨kvs, q1, r1⟩ := dct_of hm hr e1
    exact ⟨a, kvs, rfl, q1, r1⟩
  | _ => simp [dctU] at hd
def InV (K : PySem.W.Frag) (H : Hp) (x y : V) (b : Bool) : Prop :=
  (∃ d p xs ds, Dp K H x d ∧ y = .ref p ∧ (SqL K H p xs ∨ SqT K H p xs) ∧ DpAll K H xs ds ∧ d.canLay0 = true ∧ PyData.canLayAll0 ds = true ∧ d.depth ≤ 700 ∧ b = ds.any fun z => PyData.eqv z d) ∨
  (∃ a o, y = .ref a ∧ DGet H a x o ∧ b = o.isSome) ∨ ∃ i j, x = .str i ∧ y = .str j ∧ b = !(Builtin.Str.occurrences j i 0 j.length 1).isEmpty
theorem in_ok {K : PySem.W.Frag} {H : Hp} {ρ : List Addr} {μ : Mem} {u w : U} {x y : V} {b : Bool} (hm : RepM K H ρ μ) (ru : RepV K H ρ u x) (rw' : RepV K H ρ w y) (e : inU u w μ = some b) : InV K H x y b := by
  have main : ∀ w' : U, w' = w → (match dctU μ w' with
    | some kus => match keyU u with
      | some k => some (valU kus k).isSome
      | none => none
    | none => match seqU μ w' with
      | some us => match datU μ u, toDs (refD μ 6) us with
        | some d, some ds => if d.depth ≤ 700 then some (ds.any fun y => PyData.eqv y d) else none
        | _, _ => none
      | none => none) = some b → InV K H x y b := by
    intro w' ew h
    subst ew
    cases hd : dctU μ w' with
    | some kus =>
      rw [hd] at h
      simp only at h
      obtain ⟨a, kvs, rfl, q1, r1⟩ := dct_at hm rw' hd
      cases ek : keyU u with
      | none => rw [ek] at h; cases h
      | some k =>
        rw [ek] at h
        cases h
        refine .inr (.inl ⟨a, valV kvs k, rfl, ?_, ?_⟩)
        · rw [keyU_ok ru ek]; exact DGet.k q1
        · cases ev : valU kus k with
          | none => rw [r1.val.2 ev]; rfl
          | some z => obtain ⟨v, q2, _⟩ := r1.val.1 z ev; rw [q2]; rfl
    | none =>
      rw [hd] at h
      simp only at h
      cases es : seqU μ w' with
      | none => rw [es] at h; cases h
      | some us =>
        rw [es] at h
        simp only at h
        obtain ⟨a, vs, rfl, q, r⟩ := seqU_ok hm rw' es
        cases e1 : datU μ u with
        | none => rw [e1] at h; cases h
        | some d =>
          cases e2 : toDs (refD μ 6) us with
          | none => rw [e1, e2] at h; cases h
          | some ds =>
            rw [e1, e2] at h
            simp only at h
            obtain ⟨a1, a2⟩ := datU_ok hm ru e1
            obtain ⟨b1, b2⟩ := toDs_ok (refD_ok hm 6) us vs ds r e2
            split at h
            · cases h
              exact .inl ⟨d, a, vs, ds, a1, rfl, q, b1, a2, b2, by assumption, rfl⟩
            · cases h
  cases w with
  | str z =>
    cases rw'
    cases u with
    | str s =>
      cases ru
      simp only [inU, Option.some.injEq] at e
      exact .inr (.inr ⟨s, z, rfl, rfl, e.symm⟩)
    | _ => simp [inU] at e
  | non => exact main _ rfl e
  | bl b => exact main _ rfl e
  | int b => exact main _ rfl e
  | tup b => exact main _ rfl e
  | ref b => exact main _ rfl e
  | frl b => exact main _ rfl e
theorem os_in (G : Good X W (k + 40)) : OpS X W (compareOp .In) uIn := by
  intro ρ μ σ H u w x y Q hm ru rw' h
  unfold uIn at h
  cases e : inU u w μ with
  | none => rw [e] at h; exact h.elim
  | some b =>
    rw [e] at h
    have q := h.ok (Stp.refl hm) (RepV.bl (b := b))
    rcases in_ok hm ru rw' e with ⟨d, p, xs, ds, a1, a2, a3, a4, a5, a6, a7, rfl⟩ | ⟨a, o, a1, a2, rfl⟩ | ⟨i, j, a1, a2, rfl⟩
    · exact ⟨_, op_inL G.un, d, p, xs, ds, a1, a2, a3, a4, a5, a6, a7, q⟩
    · exact ⟨_, op_inDc G.hu, a, o, a1, a2, q⟩
    · exact ⟨_, op_in_str, i, j, a1, a2, q⟩
theorem os_nin (G : Good X W (k + 40)) : OpS X W (compareOp .NotIn) uNin := by
  intro ρ μ σ H u w x y Q hm ru rw' h
  unfold uNin at h
  cases e : inU u w μ with
  | none => rw [e] at h; exact h.elim
  | some b =>
    rw [e] at h
    have q := h.ok (Stp.refl hm) (RepV.bl (b := !b))
    rcases in_ok hm ru rw' e with ⟨d, p, xs, ds, a1, a2, a3, a4, a5, a6, a7, rfl⟩ | ⟨a, o, a1, a2, rfl⟩ | ⟨i, j, a1, a2, rfl⟩
    · exact ⟨_, op_ninL G.un, d, p, xs, ds, a1, a2, a3, a4, a5, a6, a7, q⟩
    · exact ⟨_, op_ninDc G.hu, a, o, a1, a2, q⟩
    · exact ⟨_, op_notin_str, i, j, a1, a2, q⟩

/-! ### isinstance of a built-in class -/
def tyU (μ : Mem) : U → Option String
  | .non => some "NoneType"
  | .bl _ => some "bool"
  | .int _ => some "int"
  | .str _ => some "str"
  | .tup _ => some "tuple"
  | .ref i => match μ[i]? with
    | some (.lst _) => some "list"
    | some (.dct _) => some "dict"
    | some (.fdc _) => none
    | some (.dtt _) => none
    | some (.fdt _) => none
    | some (.obj _ _) => none
    | none => none
  | .frl _ => some "list"
theorem tyU_ok {K : PySem.W.Frag} {H : Hp} {ρ : List Addr} {μ : Mem} (hm : RepM K H ρ μ) {u : U} {v : V} {t : String} (r : RepV K H ρ u v) (e : tyU μ u = some t) : TyX K H v (.type t) := by
  cases r with
  | non => cases e; exact .base .non
  | bl => cases e; exact .base (.bl _)
  | int => cases e; exact .base (.int _)
  | str _ => cases e; exact .base (.str _)
  | tup hs _ =>
    cases e
    rcases hs with (h | ⟨o, h⟩) | ⟨o, its, n, h, c, _⟩
    · exact .base (.tup h)
    · exact .fTuple h
    · exact .kTuple h c
  | ref hr =>
    obtain ⟨c, hc, rc⟩ := hm.at hr
    simp only [tyU, hc] at e
    cases c with
    | lst us => obtain ⟨vs, q, _⟩ := rc; cases e; exact .base (.lst q)
    | dct us => obtain ⟨vs, q, _⟩ := rc; cases e; exact .base (.dK q)
    | _ => cases e
  | frl hs _ =>
    cases e
    rcases hs with ⟨o, h⟩ | ⟨o, its, n, h, c, _⟩
    · exact .base (.frz h)
    · exact .kList h c
def isTy (T : String) (t : String) : Bool := t == T || (T == "int" && t == "bool")
def fIsi (T : String) (a : FE) : FE := fun s μ => (a s μ).bind fun u μ1 => match tyU μ1 u with
  | some t => .ok (.bl (isTy T t)) μ1
  | none => .bad
theorem kitK {K : PySem.W.Frag} {T : String} (hT : ∀ t ∈ ["NoneType", "bool", "int", "str", "tuple", "list", "dict"], kitB t T = some (isTy T t)) {μ : Mem} {u : U} {t : String} (e : tyU μ u = some t) : PySem.W.kitOne K (.type t) (.type T) = some (isTy T t) := by
  apply kit_ty
  apply hT
  cases u with
  | ref i =>
    simp only [tyU] at e
    split at e <;> first | (cases e; simp) | cases e
  | _ => cases e; simp
theorem ce_isi {T : String} {x : Str} {a : Expr} {ma : FE} {p p2 pos : Pos} (hT : ∀ t ∈ ["NoneType", "bool", "int", "str", "tuple", "list", "dict"], kitB t T = some (isTy T t)) (ha : CE X W a ma)
    (hT2 : PE X (.Name x p2) (tC (.ty T)))
    (hp : ∀ {r : List V → Hp → VK → Prop} {t : TA}, CallR X (.builtin "isinstance") r → PA X [a, .Name x p2] t → PE X (.Call (.Name "isinstance" p) [a, .Name x p2] [] pos) (tCB r t))
    (hs1 : starEach [a, .Name x p2] X.env = (false, eval a X.env) :: starEach [.Name x p2] X.env := by rfl) (hs2 : starEach [.Name x p2] X.env = (false, eval (.Name x p2) X.env) :: starEach [] X.env := by rfl) :
    CE X W (.Call (.Name "isinstance" p) [a, .Name x p2] [] pos) (fIsi T ma) := by
  intro ρ μ s σ H Q hs hm h
  refine ⟨_, hp call_isi (pa_cons pe_w (pa_cons hT2 pa_nil hs2) hs1), ?_⟩
  refine ha ρ μ s σ H _ hs hm (h.bind fun u μ1 v H1 ρ1 t1 r1 h1 => ?_)
  cases e : tyU μ1 u with
  | none => rw [e] at h1; exact h1.elim
  | some t =>
    rw [e] at h1
    exact ⟨v, .ty T, .type t, .type T, isTy T t, rfl, .ty T, tyU_ok t1.mem r1 e, kitK hT e, h1.ok (Stp.refl t1.mem) .bl⟩

/-! ### methods of lists -/
def MtW (X : Cx) (id : String) : V → List V → Hp → VK → Prop := fun x vs H Q => ∃ r, MtR X id r ∧ r x vs H Q
theorem mt_w {id : String} : MtR X id (MtW X id) := fun pins s σ H x xs v us Q I rx rxs ⟨_, h, q⟩ => h pins s σ H x xs v us Q I rx rxs q
def fMt (g : U → List U → Mem → Res U) (o : FE) (a : FA) : FE := fun s μ => (o s μ).bind fun u μ1 => (a s μ1).bind fun us μ2 => g u us μ2
/-- the receiver is known to be a list ahead of the arguments -/
def fMtL (g : U → List U → Mem → Res U) (o : FE) (a : FA) : FE := fun s μ => (o s μ).bind fun u μ1 => match lstU μ1 u with
  | some _ => (a s μ1).bind fun us μ2 => g u us μ2
  | none => .bad
def MtS (X : Cx) (W : WX) (id : String) (g : U → List U → Mem → Res U) : Prop := ∀ ρ μ σ H u us x vs Q, RepM X.K H ρ μ → RepV X.K H ρ u x → RepVs X.K H ρ us vs → Post X W σ relV ρ H (g u us μ) Q → MtW X id x vs H Q
theorem ce_mtL {id : String} {name : Str} {o e : Expr} {es : List Expr} {mo : FE} {ma : FA} {g : U → List U → Mem → Res U} {apos cpos : Pos} (hg : MtS X W id g) (ho : CE X W o mo) (ha : CA X W (e :: es) ma)
    (hp : ∀ {r : V → List V → Hp → VK → Prop} {to : TE} {t : TA}, MtR X id r → PE X o to → PA X (e :: es) t → PE X (.Call (.Attribute o name apos) (e :: es) [] cpos) (tBM X.K "list" r to t)) : CE X W (.Call (.Attribute o name apos) (e :: es) [] cpos) (fMtL g mo ma) := by
  intro ρ μ s σ H Q hs hm h
  refine ⟨_, hp mt_w pe_w pa_w, ?_⟩
  refine ho ρ μ s σ H _ hs hm (h.bind fun u μ1 x H1 ρ1 t1 r1 h1 => ?_)
  split at h1
  · rename_i us e
    obtain ⟨a, vs, rfl, q, _⟩ := lstU_ok t1.mem r1 e
    refine ⟨.inl ⟨rfl, vs, q⟩, ?_⟩
    exact ha ρ1 μ1 s σ H1 _ (t1.s hs) t1.mem (h1.bind fun us μ2 vs H2 ρ2 t2 r2 h2 => hg ρ2 μ2 σ H2 u us _ vs Q t2.mem (t2.v r1) r2 h2)
  · exact h1.elim
theorem ce_mtL0 {id : String} {name : Str} {o : Expr} {mo : FE} {g : U → List U → Mem → Res U} {apos cpos : Pos} (hg : MtS X W id g) (ho : CE X W o mo)
    (hp : ∀ {r : V → List V → Hp → VK → Prop} {to : TE}, MtR X id r → PE X o to → PE X (.Call (.Attribute o name apos) [] [] cpos) (tBM0 X.K "list" r to)) : CE X W (.Call (.Attribute o name apos) [] [] cpos) (fMtL g mo aNil) := by
  intro ρ μ s σ H Q hs hm h
  refine ⟨_, hp mt_w pe_w, ?_⟩
  refine ho ρ μ s σ H _ hs hm (h.bind fun u μ1 x H1 ρ1 t1 r1 h1 => ?_)
  split at h1
  · rename_i us e
    obtain ⟨a, vs, rfl, q, _⟩ := lstU_ok t1.mem r1 e
    exact ⟨.inl ⟨rfl, vs, q⟩, hg ρ1 μ1 σ H1 u [] _ [] Q t1.mem r1 .nil h1⟩
  · exact h1.elim
def gAppend (u : U) (us : List U) (μ : Mem) : Res U := match u, us with
  | .ref i, [w] => match μ[i]? with
    | some (.lst xs) => if xs.length < lim then .ok .non (μ.set i (.lst (xs ++ [w]))) else .bad
    | _ => .bad
  | _, _ => .bad
theorem gs_append : MtS X W "list.append" gAppend := by
  intro ρ μ σ H u us x vs Q hm ru rus h
  unfold gAppend at h
  split at h
  · split at h
    · rename_i e
      split at h
      · cases ru with
        | ref hr =>
          cases rus with
          | cons r1 r2 =>
            cases r2
            obtain ⟨ws, q, rr⟩ := lst_of hm hr e
            exact ⟨_, mt_append, _, ws, _, rfl, rfl, q, by rw [← rr.length]; exact lim_lt (by assumption), h.ok (putL hm hr e (rr.append (.one r1))) .non⟩
      · exact h.elim
    · exact h.elim
  · exact h.elim
def gExtend (u : U) (us : List U) (μ : Mem) : Res U := match u, us with
  | .ref i, [.ref j] => match μ[i]?, μ[j]? with
    | some (.lst xs), some (.lst ys) => if xs.length + ys.length ≤ lim then .ok .non (μ.set i (.lst (xs ++ ys))) else .bad
    | _, _ => .bad
  | _, _ => .bad
theorem gs_extend : MtS X W "list.extend" gExtend := by
  intro ρ μ σ H u us x vs Q hm ru rus h
  unfold gExtend at h
  split at h
  · split at h
    · rename_i e e2
      split at h
      · cases ru with
        | ref hr =>
          cases rus with
          | cons r1 r2 =>
            cases r2
            cases r1 with
            | ref hr2 =>
              obtain ⟨ws, q, rr⟩ := lst_of hm hr e
              obtain ⟨zs, q2, rr2⟩ := lst_of hm hr2 e2
              exact ⟨_, mt_extend, _, _, ws, zs, rfl, rfl, q, q2, by rw [← rr.length, ← rr2.length]; exact lim_le (by assumption), h.ok (putL hm hr e (rr.append rr2)) .non⟩
      · exact h.elim
    · exact h.elim
  · exact h.elim
theorem RepVs.dropLast {K : PySem.W.Frag} {H : Hp} {ρ : List Addr} {us : List U} {vs : List V} (r : RepVs K H ρ us vs) : RepVs K H ρ us.dropLast vs.dropLast := by
  rw [List.dropLast_eq_take, List.dropLast_eq_take, r.length]
  exact r.take _
def gPop (u : U) (us : List U) (μ : Mem) : Res U := match u, us with
  | .ref i, [] => match μ[i]? with
    | some (.lst xs) => match xs[xs.length - 1]? with
      | some w => .ok w (μ.set i (.lst xs.dropLast))
      | none => .bad
    | _ => .bad
  | _, _ => .bad
theorem gs_pop : MtS X W "list.pop" gPop := by
  intro ρ μ σ H u us x vs Q hm ru rus h
  unfold gPop at h
  split at h
  · split at h
    · rename_i xs e
      split at h
      · rename_i w e2
        cases ru with
        | ref hr =>
          cases rus
          obtain ⟨ws, q, rr⟩ := lst_of hm hr e
          obtain ⟨z, q2, r2⟩ := rr.get e2
          have t := putL hm hr e rr.dropLast
          exact ⟨_, mt_pop, _, ws, z, rfl, rfl, q, by rw [← rr.length]; exact q2, h.ok t (t.v r2)⟩
      · exact h.elim
    · exact h.elim
  · exact h.elim
theorem RepVs.eraseIdx {K : PySem.W.Frag} {H : Hp} {ρ : List Addr} : ∀ {us : List U} {vs : List V} (n : Nat), RepVs K H ρ us vs → RepVs K H ρ (us.eraseIdx n) (vs.eraseIdx n)
  | _, _, _, .nil => .nil
  | _, _, 0, .cons _ r => r
  | _, _, n + 1, .cons h r => .cons h (RepVs.eraseIdx n r)
def gPopAt (u : U) (us : List U) (μ : Mem) : Res U := match u, us with
  | .ref i, [.int n] => match μ[i]? with
    | some (.lst xs) => if -(2 ^ 63) ≤ n ∧ n < 2 ^ 63 then match seqIndex? n xs.length with
      | some j => match xs[j]? with
        | some w => .ok w (μ.set i (.lst (xs.eraseIdx j)))
        | none => .bad
      | none => .bad
      else .bad
    | _ => .bad
  | _, _ => .bad
theorem gs_popAt : MtS X W "list.pop" gPopAt := by
  intro ρ μ σ H u us x vs Q hm ru rus h
  unfold gPopAt at h
  split at h
  · split at h
    · rename_i xs e
      split at h
      · rename_i hz
        split at h
        · rename_i j ej
          split at h
          · rename_i w e2
            cases ru with
            | ref hr =>
              cases rus with
              | cons r1 r0 =>
                cases r0
                cases r1
                obtain ⟨ws, q, rr⟩ := lst_of hm hr e
                obtain ⟨z, q2, r2⟩ := rr.get e2
                have t := putL hm hr e (rr.eraseIdx j)
                exact ⟨_, mt_popAt, _, ws, _, j, z, rfl, rfl, q, hz.1, hz.2, by rw [← rr.length]; exact ej, q2, h.ok t (t.v r2)⟩
          · exact h.elim
        · exact h.elim
      · exact h.elim
    · exact h.elim
  · exact h.elim
end
end Dg
/-! Dg5: statements, loops, comprehensions, calls of defs, a def by its body. -/
namespace Dg
open PySem PySem.Spec PyProof.Rows L2 RZ

/-! ### what is wanted behind a statement -/
def PostS (X : Cx) (W : WX) (ρ : List Addr) (H : Hp) (o : Out) (D : Ends) : Prop := match o with
  | .nx s' μ' => ∀ σ' H' ρ', Stp X.K ρ H ρ' H' μ' → RepS X.K H' ρ' s' σ' → D.nx σ' H'
  | .rt u μ' => ∀ v H' ρ', Stp X.K ρ H ρ' H' μ' → RepV X.K H' ρ' u v → D.rt v H'
  | .bk s' μ' => ∀ σ' H' ρ', Stp X.K ρ H ρ' H' μ' → RepS X.K H' ρ' s' σ' → D.bk σ' H'
  | .ct s' μ' => ∀ σ' H' ρ', Stp X.K ρ H ρ' H' μ' → RepS X.K H' ρ' s' σ' → D.ct σ' H'
  | .ex c s' μ' => ∀ cls σ' H' ρ', Stp X.K ρ H ρ' H' μ' → RepS X.K H' ρ' s' σ' → X.mg c = some cls → W cls none σ' H'
  | .bad => False
def ofR {α : Type} (r : Res α) (s : Slots) (k : α → Mem → Out) : Out := match r with
  | .ok a μ => k a μ
  | .ex c μ => .ex c s μ
  | .bad => .bad
theorem PostS.from {X : Cx} {W : WX} {ρ ρ1 : List Addr} {H H1 : Hp} {μ1 : Mem} {o : Out} {D : Ends} (t : Stp X.K ρ H ρ1 H1 μ1) (h : PostS X W ρ H o D) : PostS X W ρ1 H1 o D := by
  cases o with
  | nx s m => exact fun σ' H' ρ' t' r => h σ' H' ρ' (t.trans t') r
  | rt u m => exact fun σ' H' ρ' t' r => h σ' H' ρ' (t.trans t') r
  | bk s m => exact fun σ' H' ρ' t' r => h σ' H' ρ' (t.trans t') r
  | ct s m => exact fun σ' H' ρ' t' r => h σ' H' ρ' (t.trans t') r
  | ex c s m => exact fun cls σ' H' ρ' t' r e => h cls σ' H' ρ' (t.trans t') r e
  | bad => exact h
theorem PostS.bind {α β : Type} {X : Cx} {W : WX} {σ : L2.St} {rel : RelT α β} {ρ : List Addr} {H : Hp} {r : Res α} {s : Slots} {k : α → Mem → Out} {D : Ends} {Q1 : β → Hp → Prop} (hs : RepS X.K H ρ s σ)
    (h : PostS X W ρ H (ofR r s k) D) (hk : ∀ a μ1 x H1 ρ1, Stp X.K ρ H ρ1 H1 μ1 → rel X.K H1 ρ1 a x → PostS X W ρ1 H1 (k a μ1) D → Q1 x H1) : Post X W σ rel ρ H r Q1 := by
  cases r with
  | ok a m =>
    intro v H' ρ' t q
    exact hk a m v H' ρ' t q (PostS.from t h)
  | ex c m => exact fun cls H' ρ' t e => h cls σ H' ρ' t (t.s hs) e
  | bad => exact h
/-- the same out, other ends behind -/
theorem PostS.ends {X : Cx} {W : WX} {ρ : List Addr} {H : Hp} {o : Out} {D D' : Ends} (h : PostS X W ρ H o D) (n : ∀ s m, o = .nx s m → PostS X W ρ H o D') (r : D'.rt = D.rt) (b : ∀ s m, o = .bk s m → PostS X W ρ H o D') (c : ∀ s m, o = .ct s m → PostS X W ρ H o D') : PostS X W ρ H o D' := by
  cases o with
  | nx s m => exact n s m rfl
  | rt u m => exact fun v H' ρ' t' q => by rw [r]; exact h v H' ρ' t' q
  | bk s m => exact b s m rfl
  | ct s m => exact c s m rfl
  | ex c s m => exact h
  | bad => exact h

def WS (X : Cx) (st : Stmt) : TS := fun D σ H => ∃ t, PS X st t ∧ t D σ H
theorem ps_w {X : Cx} {st : Stmt} : PS X st (WS X st) := ⟨fun pins s σ H D I ⟨_, h, q⟩ => h.run pins s σ H D I q⟩
def WSs (X : Cx) (st : List Stmt) : TS := fun D σ H => ∃ t, PSs X st t ∧ t D σ H
theorem pss_w {X : Cx} {st : List Stmt} : PSs X st (WSs X st) := ⟨fun pins s σ H D I ⟨_, h, q⟩ => h.run pins s σ H D I q⟩
def CS (X : Cx) (W : WX) (st : Stmt) (m : FS) : Prop := ∀ ρ μ s σ H D, RepS X.K H ρ s σ → RepM X.K H ρ μ → PostS X W ρ H (m s μ) D → WS X st D σ H
def CSs (X : Cx) (W : WX) (st : List Stmt) (m : FS) : Prop := ∀ ρ μ s σ H D, RepS X.K H ρ s σ → RepM X.K H ρ μ → PostS X W ρ H (m s μ) D → WSs X st D σ H

section
variable {X : Cx} {W : WX} {k : Nat}
def sNext : FS := fun s μ => .nx s μ
def sSeq (a b : FS) : FS := fun s μ => match a s μ with
  | .nx s1 μ1 => b s1 μ1
  | o => o
theorem css_nil : CSs X W [] sNext := fun ρ μ s σ H D hs hm h => ⟨_, pss_nil, h σ H ρ (Stp.refl hm) hs⟩
theorem css_cons {st : Stmt} {rest : List Stmt} {a b : FS} (ha : CS X W st a) (hb : CSs X W rest b) : CSs X W (st :: rest) (sSeq a b) := by
  intro ρ μ s σ H D hs hm h
  refine ⟨_, pss_cons ps_w pss_w, ?_⟩
  refine ha ρ μ s σ H _ hs hm ?_
  unfold sSeq at h
  cases e : a s μ with
  | nx s1 μ1 =>
    rw [e] at h
    intro σ' H' ρ' t r
    exact hb ρ' μ1 s1 σ' H' D r t.mem (PostS.from t h)
  | rt u m => rw [e] at h; exact h
  | bk u m => rw [e] at h; exact h
  | ct u m => rw [e] at h; exact h
  | ex c u m => rw [e] at h; exact h
  | bad => rw [e] at h; exact h
theorem css_one {st : Stmt} {a : FS} (ha : CS X W st a) : CSs X W [st] a := fun ρ μ s σ H D hs hm h => ⟨_, pss_one ps_w, ha ρ μ s σ H D hs hm h⟩
theorem cs_pass {pos : Pos} : CS X W (.Pass pos) sNext := fun ρ μ s σ H D hs hm h => ⟨_, ps_pass, h σ H ρ (Stp.refl hm) hs⟩
def sBrk : FS := fun s μ => .bk s μ
def sCnt : FS := fun s μ => .ct s μ
theorem cs_brk {pos : Pos} : CS X W (.Break pos) sBrk := fun ρ μ s σ H D hs hm h => ⟨_, ps_break, h σ H ρ (Stp.refl hm) hs⟩
theorem cs_cnt {pos : Pos} : CS X W (.Continue pos) sCnt := fun ρ μ s σ H D hs hm h => ⟨_, ps_continue, h σ H ρ (Stp.refl hm) hs⟩
def sExpr (a : FE) : FS := fun s μ => ofR (a s μ) s fun _ μ1 => .nx s μ1
theorem cs_expr {e : Expr} {me : FE} {pos : Pos} (he : CE X W e me) (hs0 : swapsWith e none pos.line X.env = pure false := by rfl) : CS X W (.Expr e pos) (sExpr me) := by
  intro ρ μ s σ H D hs hm h
  refine ⟨_, ps_expr pe_w hs0, ?_⟩
  exact he ρ μ s σ H _ hs hm (PostS.bind hs h fun u μ1 x H1 ρ1 t1 r1 h1 => h1 σ H1 ρ1 (Stp.refl t1.mem) (t1.s hs))
def sRet (a : FE) : FS := fun s μ => ofR (a s μ) s fun u μ1 => .rt u μ1
theorem cs_ret {e : Expr} {me : FE} {pos : Pos} (he : CE X W e me) : CS X W (.Return (some e) pos) (sRet me) := by
  intro ρ μ s σ H D hs hm h
  refine ⟨_, ps_ret pe_w, ?_⟩
  exact he ρ μ s σ H _ hs hm (PostS.bind hs h fun u μ1 x H1 ρ1 t1 r1 h1 => h1 x H1 ρ1 (Stp.refl t1.mem) r1)
def sRetN : FS := fun _ μ => .rt .non μ
theorem cs_retN {pos : Pos} : CS X W (.Return none pos) sRetN := fun ρ μ s σ H D hs hm h => ⟨_, ps_retN, h _ H ρ (Stp.refl hm) .non⟩
def sIf (t : FT) (a b : FS) : FS := fun s μ => ofR (t s μ) s fun c μ1 => match c with
  | true => a s μ1
  | false => b s μ1
theorem cs_if {c : Expr} {p q : List Stmt} {tc : FT} {a b : FS} {pos : Pos} (hc : CT X W c tc) (ha : CSs X W p a) (hb : CSs X W q b) : CS X W (.If c p q pos) (sIf tc a b) := by
  intro ρ μ s σ H D hs hm h
  refine ⟨_, ps_if pt_w pss_w pss_w, ?_⟩
  refine hc ρ μ s σ H _ hs hm (PostS.bind hs h fun b μ1 x H1 ρ1 t1 r1 h1 => ?_)
  cases r1
  cases b with
  | true => exact iteT (ha ρ1 μ1 s σ H1 D (t1.s hs) t1.mem h1)
  | false => exact iteF (hb ρ1 μ1 s σ H1 D (t1.s hs) t1.mem h1)

/-! ### targets -/
inductive Tgt where
  | one (i : Nat)
  | tup (is : List Nat)
def setAll : List Nat → List U → Slots → Slots
  | i :: is, u :: us, s => setAll is us (s.set i (some u))
  | _, _, s => s
def setT (g : Tgt) (u : U) (s : Slots) : Option Slots := match g, u with
  | .one i, u => some (s.set i (some u))
  | .tup is, .tup us => if us.length = is.length then some (setAll is us s) else none
  | _, _ => none
def WG (X : Cx) (tg : Expr) : TG := fun v σ H Q => ∃ t, PG X tg t ∧ t v σ H Q
theorem pg_w {tg : Expr} : PG X tg (WG X tg) := ⟨fun pins s σ H v u Q I r ⟨_, h, q⟩ => h.run pins s σ H v u Q I r q⟩
def inT (g : Tgt) (vs : List Nat) : Prop := match g with
  | .one i => i ∈ vs
  | .tup is => ∀ i ∈ is, i ∈ vs
/-- what is stored lies as the mirror's slots; only the slots of the target change -/
def CG (X : Cx) (tg : Expr) (g : Tgt) : Prop := ∀ ρ s σ H u v s' (Q : L2.St → Hp → Prop), RepS X.K H ρ s σ → RepV X.K H ρ u v → setT g u s = some s' →
  (∀ σ', RepS X.K H ρ s' σ' → (∀ vs : List Nat, inT g vs → wipe σ' vs = wipe σ vs) → Q σ' H) → WG X tg v σ H Q
theorem wipe_set {σ : L2.St} {i : Nat} {x : Option V} : ∀ {vs : List Nat}, i ∈ vs → wipe (σ.set i x) vs = wipe σ vs
  | v :: vs, h => by
    show (wipe (σ.set i x) vs).set v none = (wipe σ vs).set v none
    by_cases e : v = i
    · subst e
      by_cases hv : v ∈ vs
      · rw [wipe_set hv]
      · have key : ∀ (ws : List Nat), v ∉ ws → wipe (σ.set v x) ws = (wipe σ ws).set v x := by
          intro ws
          induction ws with
          | nil => intro _; rfl
          | cons w ws ih =>
            intro hw
            simp only [List.mem_cons, not_or] at hw
            show (wipe (σ.set v x) ws).set w none = ((wipe σ ws).set w none).set v x
            rw [ih hw.2]
            exact List.set_comm _ _ hw.1
        rw [key vs hv, List.set_set]
    · have hv : i ∈ vs := by
        rcases List.mem_cons.mp h with q | q
        · exact absurd q.symm e
        · exact q
      rw [wipe_set hv]
theorem wipe_wipe {σ : L2.St} : ∀ {vs ws : List Nat}, (∀ i ∈ ws, i ∈ vs) → wipe (wipe σ ws) vs = wipe σ vs
  | vs, [], _ => rfl
  | vs, w :: ws, h => by
    show wipe ((wipe σ ws).set w none) vs = wipe σ vs
    rw [wipe_set (h w (by simp)), wipe_wipe (ws := ws) fun i hi => h i (by simp [hi])]
theorem cg_one {i : Nat} {x : Str} {pos : Pos} (hN : X.N.Nodup) (hi : X.N[i]? = some x) (hx : Loc X.env.scope x) (hf : X.fn x = true ∨ X.env.scope.names.lookup x = some .local := by first | exact .inl rfl | exact .inr rfl | assumption) : CG X (.Name x pos) (.one i) := by
  intro ρ s σ H u v s' Q hs r e h
  refine ⟨_, pg_name hN hi hx hf, ?_⟩
  cases e
  exact h _ (hs.set r) fun vs hv => wipe_set hv
/-- several names -/
def WGs (X : Cx) (ts : List Expr) : TGs := fun vs σ H Q => ∃ t, PGs X ts t ∧ t vs σ H Q
theorem pgs_w {ts : List Expr} : PGs X ts (WGs X ts) := ⟨fun pins s σ H vs us Q I r ⟨_, h, q⟩ => h.run pins s σ H vs us Q I r q⟩
def CGs (X : Cx) (ts : List Expr) (is : List Nat) : Prop := ∀ ρ s σ H us vs (Q : L2.St → Hp → Prop), RepS X.K H ρ s σ → RepVs X.K H ρ us vs → us.length = is.length →
  (∀ σ', RepS X.K H ρ (setAll is us s) σ' → (∀ ws : List Nat, (∀ i ∈ is, i ∈ ws) → wipe σ' ws = wipe σ ws) → Q σ' H) → WGs X ts vs σ H Q
theorem cgs_nil : CGs X [] [] := by
  intro ρ s σ H us vs Q hs r hl h
  refine ⟨_, pgs_nil, ?_⟩
  cases r with
  | nil => exact ⟨rfl, h σ hs fun _ _ => rfl⟩
  | cons _ _ => simp at hl
theorem cgs_cons {e : Expr} {es : List Expr} {i : Nat} {is : List Nat} (h1 : CG X e (.one i)) (h2 : CGs X es is) (hs0 : (assignEach (e :: es) X.env).map (·.2) = assign e X.env :: (assignEach es X.env).map (·.2) := by rfl) : CGs X (e :: es) (i :: is) := by
  intro ρ s σ H us vs Q hs r hl h
  refine ⟨_, pgs_cons pg_w pgs_w hs0, ?_⟩
  cases r with
  | nil => simp at hl
  | cons r1 r2 =>
    refine ⟨_, _, rfl, ?_⟩
    refine h1 ρ s σ H _ _ _ _ hs r1 rfl fun σ' hs' hw => ?_
    refine h2 ρ _ σ' H _ _ Q hs' r2 (by simpa using hl) fun σ2 hs2 hw2 => ?_
    exact h σ2 hs2 fun ws hws => (hw2 ws fun j hj => hws j (by simp [hj])).trans (hw ws (hws i (by simp)))
theorem cg_tup {es : List Expr} {is : List Nat} {j : Nat} {pos : Pos} (hc : X.calm = true) (h : CGs X es is) (hn : (assignEach es X.env).length = is.length := by rfl) (hst : (assignEach es X.env).findIdx? (·.1) = none := by rfl) : CG X (.Tuple es j pos) (.tup is) := by
  intro ρ s σ H u v s' Q hs r e q
  refine ⟨_, pg_tup hc pgs_w hn hst, ?_⟩
  cases r with
  | tup hs1 hr1 =>
    simp only [setT] at e
    split at e
    · rename_i hl
      cases e
      exact ⟨_, _, rfl, hs1, by rw [← hr1.length]; exact hl, h ρ s σ H _ _ Q hs hr1 hl fun σ' hs' hw => q σ' hs' hw⟩
    · cases e
  | _ => simp [setT] at e
/-- x = e; a, b = e -/
def sAsg (g : Tgt) (a : FE) : FS := fun s μ => ofR (a s μ) s fun u μ1 => match setT g u s with
  | some s1 => .nx s1 μ1
  | none => .bad
theorem cs_asg {tg e : Expr} {g : Tgt} {me : FE} {pos : Pos} (he : CE X W e me) (hg : CG X tg g) (hp : ∀ {te : TE} {gt : TG}, PE X e te → PG X tg gt → PS X (.Assign [tg] e pos) (tAsg te gt)) : CS X W (.Assign [tg] e pos) (sAsg g me) := by
  intro ρ μ s σ H D hs hm h
  refine ⟨_, hp pe_w pg_w, ?_⟩
  refine he ρ μ s σ H _ hs hm (PostS.bind hs h fun u μ1 x H1 ρ1 t1 r1 h1 => ?_)
  cases es : setT g u s with
  | none => rw [es] at h1; exact h1.elim
  | some s1 =>
    rw [es] at h1
    exact hg ρ1 s σ H1 u x s1 _ (t1.s hs) r1 es fun σ' hs' _ => h1 σ' H1 ρ1 (Stp.refl t1.mem) hs'
theorem cs_set {i : Nat} {x : Str} {e : Expr} {me : FE} {pos pos' : Pos} (hN : X.N.Nodup) (hi : X.N[i]? = some x) (hx : Loc X.env.scope x) (he : CE X W e me) (hs0 : swapsWith e (some (.Name x pos')) pos.line X.env = pure false := by rfl)
    (hf : X.fn x = true ∨ X.env.scope.names.lookup x = some .local := by first | exact .inl rfl | exact .inr rfl | assumption) : CS X W (.Assign [.Name x pos'] e pos) (sAsg (.one i) me) := by
  intro ρ μ s σ H D hs hm h
  refine ⟨_, ps_set hN hi hx pe_w hs0 hf, ?_⟩
  exact he ρ μ s σ H _ hs hm (PostS.bind hs h fun u μ1 x H1 ρ1 t1 r1 h1 => h1 _ H1 ρ1 (Stp.refl t1.mem) ((t1.s hs).set r1))
/-- a, b = e1, e2 -/
def sPar (i j : Nat) (a b : FE) : FS := fun s μ => ofR (a s μ) s fun u μ1 => ofR (b s μ1) s fun w μ2 => .nx ((s.set i (some u)).set j (some w)) μ2

/-! ### o[i] = e, d[k] = e -/
def stU (o i u : U) (μ : Mem) : Option Mem := match o with
  | .ref r => match μ[r]? with
    | some (.lst xs) => match i with
      | .int n => match ixN xs.length n with
        | some j => some (μ.set r (.lst (xs.set j u)))
        | none => none
      | _ => none
    | some (.dct kus) => match keyU i with
      | some k => if kus.length < lim then some (μ.set r (.dct (putU kus k u))) else none
      | none => none
    | _ => none
  | _ => none
def sStore (o i a : FE) : FS := fun s μ => ofR (a s μ) s fun u μ1 => ofR (o s μ1) s fun x μ2 => ofR (i s μ2) s fun y μ3 => match stU x y u μ3 with
  | some μ4 => .nx s μ4
  | none => .bad
theorem cs_store {o i e : Expr} {mo mi me : FE} {pos pos' : Pos} (G : Good X W (k + 40)) (ho : CE X W o mo) (hi : CE X W i mi) (he : CE X W e me)
    (h1 : ∀ {to ti te : TE}, PE X o to → PE X i ti → PE X e te → PS X (.Assign [.Subscript o i pos'] e pos) (tAsg te (gSub to ti rSetL)))
    (h2 : ∀ {to ti te : TE}, PE X o to → PE X i ti → PE X e te → PS X (.Assign [.Subscript o i pos'] e pos) (sDPut to ti te)) : CS X W (.Assign [.Subscript o i pos'] e pos) (sStore mo mi me) := by
  intro ρ μ s σ H D hs hm h
  by_cases hd : ∃ u μ1 x μ2 y μ3 kus, me s μ = .ok u μ1 ∧ mo s μ1 = .ok x μ2 ∧ mi s μ2 = .ok y μ3 ∧ dctU μ3 x = some kus
  · obtain ⟨u, μ1, x, μ2, y, μ3, kus, e1, e2, e3, e4⟩ := hd
    refine ⟨_, h2 pe_w pe_w pe_w, ?_⟩
    unfold sStore at h
    rw [e1] at h
    refine he ρ μ s σ H _ hs hm ?_
    rw [e1]
    intro uv H1 ρ1 t1 r1
    refine ho ρ1 μ1 s σ H1 _ (t1.s hs) t1.mem ?_
    have g1 : PostS X W ρ H (ofR (mo s μ1) s fun x μ2 => ofR (mi s μ2) s fun y μ3 => match stU x y u μ3 with
      | some μ4 => .nx s μ4
      | none => .bad) D := h
    rw [e2] at g1 ⊢
    intro xv H2 ρ2 t2 r2
    refine hi ρ2 μ2 s σ H2 _ (t2.s (t1.s hs)) t2.mem ?_
    have g2 : PostS X W ρ H (ofR (mi s μ2) s fun y μ3 => match stU x y u μ3 with
      | some μ4 => .nx s μ4
      | none => .bad) D := g1
    rw [e3] at g2 ⊢
    intro yv H3 ρ3 t3 r3
    have g3 : PostS X W ρ H (match stU x y u μ3 with
      | some μ4 => .nx s μ4
      | none => .bad) D := g2
    have g4 := PostS.from ((t1.trans t2).trans t3) g3
    cases es : stU x y u μ3 with
    | none => rw [es] at g4; exact g4.elim
    | some μ4 =>
      rw [es] at g4
      have r2' := t3.v r2
      obtain ⟨a, kvs, rfl, q1, rk⟩ := dct_at t3.mem r2' e4
      cases r2' with
      | ref hr =>
        rename_i r
        have em : μ3[r]? = some (.dct kus) := by
          unfold dctU at e4
          simp only at e4
          split at e4
          all_goals first
            | (cases e4; assumption)
            | (cases e4; done)
        simp only [stU, em] at es
        cases ek : keyU y with
        | none => rw [ek] at es; cases es
        | some k =>
          rw [ek] at es
          simp only at es
          split at es
          · rename_i hz
            cases es
            have ru := (t3.v (t2.v r1))
            refine ⟨a, _, rfl, ?_, g4 σ _ ρ3 (putD t3.mem hr em (rk.put ru)) ?_⟩
            · rw [keyU_ok r3 ek]
              exact DPut.k q1 (by rw [rk.length]; exact lim_lt hz)
            · exact (putD t3.mem hr em (rk.put ru)).s (t3.s (t2.s (t1.s hs)))
          · cases es
      | tup _ _ => simp [dctU] at e4
      | frl _ _ => simp [dctU] at e4
  · refine ⟨_, h1 pe_w pe_w pe_w, ?_⟩
    unfold sStore at h
    refine he ρ μ s σ H _ hs hm ?_
    cases e1 : me s μ with
    | ex c m => rw [e1] at h; exact fun cls H' ρ' t e => h cls σ H' ρ' t (t.s hs) e
    | bad => rw [e1] at h; exact h
    | ok u μ1 =>
      rw [e1] at h
      intro uv H1 ρ1 t1 r1
      refine ho ρ1 μ1 s σ H1 _ (t1.s hs) t1.mem ?_
      have g1 : PostS X W ρ1 H1 (ofR (mo s μ1) s fun x μ2 => ofR (mi s μ2) s fun y μ3 => match stU x y u μ3 with
        | some μ4 => .nx s μ4
        | none => .bad) D := PostS.from t1 h
      cases e2 : mo s μ1 with
      | ex c m => rw [e2] at g1; exact fun cls H' ρ' t e => g1 cls σ H' ρ' t (t.s (t1.s hs)) e
      | bad => rw [e2] at g1; exact g1
      | ok x μ2 =>
        rw [e2] at g1
        intro xv H2 ρ2 t2 r2
        refine hi ρ2 μ2 s σ H2 _ (t2.s (t1.s hs)) t2.mem ?_
        have g2 : PostS X W ρ2 H2 (ofR (mi s μ2) s fun y μ3 => match stU x y u μ3 with
          | some μ4 => .nx s μ4
          | none => .bad) D := PostS.from t2 g1
        cases e3 : mi s μ2 with
        | ex c m => rw [e3] at g2; exact fun cls H' ρ' t e => g2 cls σ H' ρ' t (t.s (t2.s (t1.s hs))) e
        | bad => rw [e3] at g2; exact g2
        | ok y μ3 =>
          rw [e3] at g2
          intro yv H3 ρ3 t3 r3
          have g4 : PostS X W ρ3 H3 (match stU x y u μ3 with
            | some μ4 => .nx s μ4
            | none => .bad) D := PostS.from t3 g2
          cases es : stU x y u μ3 with
          | none => rw [es] at g4; exact g4.elim
          | some μ4 =>
            rw [es] at g4
            have r2' := t3.v r2
            unfold stU at es
            split at es
            · rename_i r
              split at es
              · rename_i xs em
                split at es
                · rename_i n
                  split at es
                  · rename_i j ej
                    cases es
                    cases r2' with
                    | ref hr =>
                      cases r3
                      obtain ⟨ws, q, rr⟩ := lst_of t3.mem hr em
                      have t4 := putL t3.mem hr em (rr.set (t3.v (t2.v r1)) j)
                      exact ⟨_, ws, n, j, rfl, rfl, q, by rw [← rr.length]; exact ej, g4 σ _ ρ3 t4 (t4.s (t3.s (t2.s (t1.s hs))))⟩
                  · cases es
                · cases es
              · rename_i kus em
                exact absurd ⟨u, μ1, .ref r, μ2, y, μ3, kus, e1, e2, e3, by simp only [dctU, em]⟩ hd
              · cases es
            · cases es

/-! ### x += e -/
def sAug (i : Nat) (f : Int → Int → Int) (a : FE) : FS := fun s μ => match s[i]? with
  | some (some (.int x)) => ofR (a s μ) s fun u μ1 => match u with
    | .int y => .nx (s.set i (some (.int (f x y)))) μ1
    | _ => .bad
  | _ => .bad
theorem cs_aug {i : Nat} {x : Str} {e : Expr} {me : FE} {op : Operator} {f : Int → Int → Int} {pos pos' : Pos} (hN : X.N.Nodup) (hi : X.N[i]? = some x) (hx : Loc X.env.scope x) (he : CE X W e me) (ho : PIp X op (ipI f))
    (hf : X.fn x = true ∨ X.env.scope.names.lookup x = some .local := by first | exact .inl rfl | exact .inr rfl | assumption)
    (hp : ∀ {te : TE}, PE X e te → PS X (.AugAssign (.Name x pos') op e pos) (L2.tAug i te (ipI f))) : CS X W (.AugAssign (.Name x pos') op e pos) (sAug i f me) := by
  intro ρ μ s σ H D hs hm h
  refine ⟨_, hp pe_w, ?_⟩
  unfold sAug at h
  split at h
  · rename_i z e1
    obtain ⟨v, q, r⟩ := hs.get i _ e1
    cases r
    refine ⟨_, q, ?_⟩
    refine he ρ μ s σ H _ hs hm (PostS.bind hs h fun u μ1 x H1 ρ1 t1 r1 h1 => ?_)
    split at h1
    · cases r1
      exact ⟨_, _, rfl, rfl, h1 _ H1 ρ1 (Stp.refl t1.mem) ((t1.s hs).set .int)⟩
    · exact h1.elim
  · exact h.elim

/-! ### while -/
def sWhile (t : FT) (b : FS) : Nat → FS
  | 0 => fun _ _ => .bad
  | n + 1 => fun s μ => ofR (t s μ) s fun c μ1 => match c with
    | false => .nx s μ1
    | true => match b s μ1 with
      | .nx s2 μ2 => sWhile t b n s2 μ2
      | .ct s2 μ2 => sWhile t b n s2 μ2
      | .bk s2 μ2 => .nx s2 μ2
      | o => o
theorem cs_while {c : Expr} {body : List Stmt} {tc : FT} {b : FS} {pos : Pos} (n : Nat) (G : Good X W k) (hc : CT X W c tc) (hb : CSs X W body b) : CS X W (.While c body [] pos) (sWhile tc b n) := by
  intro ρ μ s σ H D hs hm h
  refine ⟨_, ps_while G.po pt_w pss_w, ?_⟩
  refine ⟨fun m σ' H' => ∃ ρ' s' μ', RepM X.K H' ρ' μ' ∧ RepS X.K H' ρ' s' σ' ∧ PostS X W ρ' H' (sWhile tc b m s' μ') D, ⟨n, ρ, s, μ, hm, hs, h⟩, ?_⟩
  intro m σ' H' ⟨ρ', s', μ', hm', hs', h'⟩
  cases m with
  | zero => exact h'.elim
  | succ m =>
    refine hc ρ' μ' s' σ' H' _ hs' hm' (PostS.bind hs' h' fun b0 μ1 x H1 ρ1 t1 r1 h1 => ?_)
    cases r1
    cases b0 with
    | false => exact iteF (h1 σ' H1 ρ1 (Stp.refl t1.mem) (t1.s hs'))
    | true =>
      refine iteT ⟨fun σ2 H2 => ∃ ρ2 s2 μ2, RepM X.K H2 ρ2 μ2 ∧ RepS X.K H2 ρ2 s2 σ2 ∧ PostS X W ρ2 H2 (sWhile tc b m s2 μ2) D, fun σ2 H2 q => ⟨m, Nat.lt_succ_self m, q⟩, ?_⟩
      refine hb ρ1 μ1 s' σ' H1 _ (t1.s hs') t1.mem ?_
      cases e : b s' μ1 with
      | nx s2 μ2 =>
        simp only [e] at h1
        exact fun σ2 H2 ρ2 t r => ⟨ρ2, s2, μ2, t.mem, r, PostS.from t h1⟩
      | ct s2 μ2 =>
        simp only [e] at h1
        exact fun σ2 H2 ρ2 t r => ⟨ρ2, s2, μ2, t.mem, r, PostS.from t h1⟩
      | bk s2 μ2 => simp only [e] at h1; exact h1
      | rt u m2 => simp only [e] at h1; exact h1
      | ex c2 u m2 => simp only [e] at h1; exact h1
      | bad => simp only [e] at h1; exact h1.elim

/-! ### what is walked -/
inductive IterU where
  | seq (us : List U)
  | rng (lo c : Int) (n : Nat)
  | live (r : Nat)
  | zipL (a b : Nat)
def listAt (μ : Mem) (r : Nat) : Option (List U) := match μ[r]? with
  | some (.lst us) => some us
  | _ => none
def itemAt (it : IterU) (i : Nat) (μ : Mem) : Option (Option U) := match it with
  | .seq us => some us[i]?
  | .rng lo c n => some (if i < n then some (.int (lo + (i : Int) * c)) else none)
  | .live r => (listAt μ r).map fun us => us[i]?
  | .zipL a b => match listAt μ a, listAt μ b with
    | some us, some ws => some (match us[i]?, ws[i]? with
      | some u, some w => some (.tup [u, w])
      | _, _ => none)
    | _, _ => none
def ItOk (K : PySem.W.Frag) (ρ : List Addr) (H : Hp) (it : IterU) (J : It) : Prop := ∀ i ρ' H' μ', Ext ρ ρ' → TX H H' → RepM K H' ρ' μ' → match itemAt it i μ' with
  | none => True
  | some none => J.stop i H'
  | some (some u) => J.go i H' ∧ ∀ x H'', J.yld i H' x H'' → Stp K ρ' H' ρ' H'' μ' ∧ RepV K H'' ρ' u x
def relI : RelT IterU It := fun K H ρ it J => ItOk K ρ H it J
abbrev FI := Slots → Mem → Res IterU
def WI (X : Cx) (tg iter : Expr) : TI := fun σ H R => ∃ wi, PI X tg iter wi ∧ wi σ H R
theorem pi_w {tg iter : Expr} : PI X tg iter (WI X tg iter) := ⟨fun pins s σ H R I ⟨_, h, q⟩ => h.run pins s σ H R I q⟩
def CI (X : Cx) (W : WX) (tg iter : Expr) (m : FI) : Prop := ∀ ρ μ s σ H R, RepS X.K H ρ s σ → RepM X.K H ρ μ → Post X W σ relI ρ H (m s μ) R → WI X tg iter σ H R
theorem listAt_ok {K : PySem.W.Frag} {H : Hp} {ρ : List Addr} {μ : Mem} (hm : RepM K H ρ μ) {r : Nat} {a : Addr} {us : List U} (hr : ρ[r]? = some a) (e : listAt μ r = some us) : ∃ vs, SqL K H a vs ∧ RepVs K H ρ us vs := by
  obtain ⟨c, hc, rc⟩ := hm.at hr
  simp only [listAt, hc] at e
  cases c with
  | lst us => obtain ⟨vs, q, r⟩ := rc; cases e; exact ⟨vs, .inl (.inl q), r⟩
  | _ => cases e
theorem it_live {K : PySem.W.Frag} {H : Hp} {ρ : List Addr} {r : Nat} {a : Addr} (hr : ρ[r]? = some a) : ItOk K ρ H (.live r) (Itl K a) := by
  intro i ρ' H' μ' ex tx hm
  simp only [itemAt]
  cases e : listAt μ' r with
  | none => trivial
  | some us =>
    obtain ⟨vs, q, rr⟩ := listAt_ok hm (ex.get hr) e
    simp only [Option.map_some]
    cases eu : us[i]? with
    | none =>
      refine ⟨vs, q, ?_⟩
      rw [← rr.length]
      exact List.getElem?_eq_none_iff.mp eu
    | some u =>
      obtain ⟨v, q2, r2⟩ := rr.get eu
      refine ⟨⟨vs, v, q, q2⟩, fun x H'' y => ?_⟩
      obtain ⟨rfl, hx⟩ := y
      have := hx vs q
      rw [q2] at this
      cases this
      exact ⟨Stp.refl hm, r2⟩
theorem it_frl {K : PySem.W.Frag} {H : Hp} {ρ : List Addr} {a : Addr} {us : List U} {vs : List V} (hs : FrL K H a vs) (hr : RepVs K H ρ us vs) : ItOk K ρ H (.seq us) (Itl K a) := by
  intro i ρ' H' μ' ex tx hm
  simp only [itemAt]
  have hs' := (tx.frl hs).sq
  have hr' := hr.mono tx ex
  cases eu : us[i]? with
  | none =>
    refine ⟨vs, hs', ?_⟩
    rw [← hr'.length]
    exact List.getElem?_eq_none_iff.mp eu
  | some u =>
    obtain ⟨v, q2, r2⟩ := hr'.get eu
    refine ⟨⟨vs, v, hs', q2⟩, fun x H'' y => ?_⟩
    obtain ⟨rfl, hx⟩ := y
    have := hx vs hs'
    rw [q2] at this
    cases this
    exact ⟨Stp.refl hm, r2⟩
theorem it_tup {K : PySem.W.Frag} {H : Hp} {ρ : List Addr} {a : Addr} {us : List U} {vs : List V} (hs : SqT K H a vs) (hr : RepVs K H ρ us vs) : ItOk K ρ H (.seq us) (Itt K a) := by
  intro i ρ' H' μ' ex tx hm
  simp only [itemAt]
  have hs' := tx.seq hs
  have hr' := hr.mono tx ex
  cases eu : us[i]? with
  | none =>
    refine ⟨vs, hs', ?_⟩
    rw [← hr'.length]
    exact List.getElem?_eq_none_iff.mp eu
  | some u =>
    obtain ⟨v, q2, r2⟩ := hr'.get eu
    refine ⟨⟨vs, v, hs', q2⟩, fun x H'' y => ?_⟩
    obtain ⟨rfl, hx⟩ := y
    have := hx vs hs'
    rw [q2] at this
    cases this
    exact ⟨Stp.refl hm, r2⟩
theorem it_rng {K : PySem.W.Frag} {H : Hp} {ρ : List Addr} {lo : Int} {n : Nat} : ItOk K ρ H (.rng lo 1 n) (Itr lo n) := by
  intro i ρ' H' μ' ex tx hm
  simp only [itemAt]
  by_cases hi : i < n
  · simp only [hi, if_true]
    refine ⟨hi, fun x H'' y => ?_⟩
    obtain ⟨rfl, rfl⟩ := y
    rw [Int.mul_one]
    exact ⟨Stp.refl hm, .int⟩
  · simp only [hi, if_false]
    show n ≤ i
    omega
theorem it_rngC {K : PySem.W.Frag} {H : Hp} {ρ : List Addr} {lo c : Int} {n : Nat} : ItOk K ρ H (.rng lo c n) (Itc lo c n) := by
  intro i ρ' H' μ' ex tx hm
  simp only [itemAt]
  by_cases hi : i < n
  · simp only [hi, if_true]
    refine ⟨hi, fun x H'' y => ?_⟩
    obtain ⟨rfl, rfl⟩ := y
    exact ⟨Stp.refl hm, .int⟩
  · simp only [hi, if_false]
    show n ≤ i
    omega
/-- a list, a tuple, a text: by value -/
def iAny (K : PySem.W.Frag) (tl : TE) : TI := fun σ H R => tl σ H fun x H1 => (∃ a, x = .ref a ∧ (∃ xs, SqL K H1 a xs) ∧ R (Itl K a) H1) ∨ (∃ a, x = .ref a ∧ (∃ xs, SqT K H1 a xs) ∧ R (Itt K a) H1) ∨ ∃ z, x = .str z ∧ R (Its z) H1
theorem pi_any {tg l : Expr} {tl : TE} (hl : PE X l tl) : PI X tg l (iAny X.K tl) := by
  refine ⟨fun pins s σ H R I h => ?_⟩
  refine thn (hl.run pins s σ H _ I h) fun v s1 ⟨x, H1, I1, r1, q1⟩ => ?_
  rcases q1 with ⟨a, e, ⟨xs, hq⟩, q⟩ | ⟨a, e, ⟨xs, hq⟩, q⟩ | ⟨x, e, q⟩
  · subst e
    cases r1
    obtain ⟨its, rv, p, hz⟩ := I1.list hq
    refine wpAny_pyIter_list p.isList ?_
    refine ⟨s1.heap.objs.size, [s1.heap.objs.size], _, _, H1, rfl, I1.kept (t' := s1.toks) fun b o e => Heap.get?_push_of_some _ e, turn_list a _, ⟨_, Heap.get?_push_size _ rfl, rfl, rfl⟩, fun b hb => ?_, q⟩
    have e : b = s1.heap.objs.size := by simpa using hb
    subst e
    exact I1.fpOk (Nat.le_refl _) (I1.hok.fresh (Nat.le_refl _))
  · subst e
    cases r1
    obtain ⟨its, rv, p, hz⟩ := I1.tuple hq
    refine wpAny_pyIter_tuple (show s1.heap.IsTuple a its.toArray from p) ?_
    refine ⟨s1.heap.objs.size, [s1.heap.objs.size], _, _, H1, rfl, I1.kept (t' := s1.toks) fun b o e => Heap.get?_push_of_some _ e, turn_tuple a _, ⟨_, Heap.get?_push_size _ rfl, rfl, rfl⟩, fun b hb => ?_, q⟩
    have e : b = s1.heap.objs.size := by simpa using hb
    subst e
    exact I1.fpOk (Nat.le_refl _) (I1.hok.fresh (Nat.le_refl _))
  · subst e
    obtain ⟨t, rfl⟩ := r1
    cases ha : x.cps.all (· < 128)
    · exact wpAny_pyIter_wide ha (pi_one (tk := s1.toks) I1 _ (turn_str _ x t "str_iterator" (.inr rfl)) ⟨_, Heap.get?_push_size _ rfl, rfl, rfl⟩ q)
    · exact wpAny_pyIter_ascii ha (pi_one (tk := s1.toks) I1 _ (turn_str _ x t "str_ascii_iterator" (.inl rfl)) ⟨_, Heap.get?_push_size _ rfl, rfl, rfl⟩ q)
def signsU (z : Str) : List U := z.cps.toList.map fun c => .str ⟨#[c]⟩
theorem it_str {K : PySem.W.Frag} {H : Hp} {ρ : List Addr} {z : Str} (hz : PyData.strOk z = true) : ItOk K ρ H (.seq (signsU z)) (Its z) := by
  intro i ρ' H' μ' ex tx hm
  simp only [itemAt, signsU, List.getElem?_map]
  cases eu : z.cps.toList[i]? with
  | none =>
    show z.cps.size ≤ i
    have := List.getElem?_eq_none_iff.mp eu
    simpa using this
  | some c =>
    have hi : i < z.cps.size := by
      have := (List.getElem?_eq_some_iff.mp eu).1
      simpa using this
    refine ⟨hi, fun x H'' y => ?_⟩
    obtain ⟨rfl, c', e1, rfl⟩ := y
    have e2 : z.cps[i]? = some c := by
      rw [← Array.getElem?_toList]; exact eu
    rw [e1] at e2
    cases e2
    refine ⟨Stp.refl hm, .str ?_⟩
    have hc : c ∈ z.cps := Array.mem_toList_iff.mp (List.mem_of_getElem? eu)
    unfold PyData.strOk at *
    rw [Array.all_eq_true'] at *
    intro x hx
    have : x = c := by simpa using hx
    subst this
    exact hz x hc
def iSeq (a : FE) : FI := fun s μ => (a s μ).bind fun u μ1 => match u with
  | .tup us => .ok (.seq us) μ1
  | .frl us => .ok (.seq us) μ1
  | .str z => .ok (.seq (signsU z)) μ1
  | .ref r => match listAt μ1 r with
    | some _ => .ok (.live r) μ1
    | none => .bad
  | _ => .bad
theorem ci_seq {tg e : Expr} {me : FE} (he : CE X W e me) : CI X W tg e (iSeq me) := by
  intro ρ μ s σ H R hs hm h
  unfold iSeq at h
  refine ⟨_, pi_any pe_w, ?_⟩
  refine he ρ μ s σ H _ hs hm (h.bind fun u μ1 x H1 ρ1 t1 r1 h1 => ?_)
  cases r1 with
  | tup hs1 hr1 => exact .inr (.inl ⟨_, rfl, ⟨_, hs1⟩, h1.ok (Stp.refl t1.mem) (it_tup hs1 hr1)⟩)
  | str hz => exact .inr (.inr ⟨_, rfl, h1.ok (Stp.refl t1.mem) (it_str hz)⟩)
  | frl hs1 hr1 => exact .inl ⟨_, rfl, ⟨_, hs1.sq⟩, h1.ok (Stp.refl t1.mem) (it_frl hs1 hr1)⟩
  | ref hr =>
    rename_i r a
    simp only at h1
    cases e : listAt μ1 r with
    | none => rw [e] at h1; exact h1.elim
    | some us =>
      rw [e] at h1
      obtain ⟨vs, q, _⟩ := listAt_ok t1.mem hr e
      exact .inl ⟨a, rfl, ⟨vs, q⟩, h1.ok (Stp.refl t1.mem) (it_live hr)⟩
  | _ => exact h1.elim
def okR (i : Int) : Bool := decide (-(2 ^ 62) ≤ i ∧ i < 2 ^ 62)
def iRg1 (a : FE) : FI := fun s μ => (a s μ).bind fun u μ1 => match u with
  | .int n => if okR n then .ok (.rng 0 1 n.toNat) μ1 else .bad
  | _ => .bad
theorem ci_rg1 {tg a : Expr} {ma : FE} {p pos : Pos} (hg : Gl X "range") (hm0 : X.mg "range" = none) (ha : CE X W a ma) (hs1 : starEach [a] X.env = (false, eval a X.env) :: starEach [] X.env := by rfl) (hs2 : starEach [a] X.env = [(false, eval a X.env)] := by rfl) : CI X W tg (.Call (.Name "range" p) [a] [] pos) (iRg1 ma) := by
  intro ρ μ s σ H R hs hm h
  refine ⟨_, pi_range1 hg hm0 (pa_cons pe_w pa_nil hs1) hs2, ?_⟩
  refine ha ρ μ s σ H _ hs hm (h.bind fun u μ1 x H1 ρ1 t1 r1 h1 => ?_)
  split at h1
  · cases r1
    split at h1
    · rename_i hz
      have hz' := of_decide_eq_true hz
      exact ⟨_, rfl, hz'.1, hz'.2, h1.ok (Stp.refl t1.mem) it_rng⟩
    · exact h1.elim
  · exact h1.elim
def iRg2 (a b : FE) : FI := fun s μ => (a s μ).bind fun u μ1 => (b s μ1).bind fun w μ2 => match u, w with
  | .int i, .int j => if okR i && okR j then .ok (.rng i 1 (j - i).toNat) μ2 else .bad
  | _, _ => .bad
theorem ci_rg2 {tg a b : Expr} {ma mb : FE} {p pos : Pos} (hg : Gl X "range") (hm0 : X.mg "range" = none) (ha : CE X W a ma) (hb : CE X W b mb)
    (hp : ∀ {ta : TA}, PA X [a, b] ta → PI X tg (.Call (.Name "range" p) [a, b] [] pos) (iRng2 ta)) (hs1 : starEach [a, b] X.env = (false, eval a X.env) :: starEach [b] X.env := by rfl) (hs2 : starEach [b] X.env = (false, eval b X.env) :: starEach [] X.env := by rfl) :
    CI X W tg (.Call (.Name "range" p) [a, b] [] pos) (iRg2 ma mb) := by
  intro ρ μ s σ H R hs hm h
  refine ⟨_, hp (pa_cons pe_w (pa_cons pe_w pa_nil hs2) hs1), ?_⟩
  refine ha ρ μ s σ H _ hs hm (h.bind fun u μ1 x H1 ρ1 t1 r1 h1 => ?_)
  refine hb ρ1 μ1 s σ H1 _ (t1.s hs) t1.mem (h1.bind fun w μ2 y H2 ρ2 t2 r2 h2 => ?_)
  split at h2
  · cases r1; cases r2
    split at h2
    · rename_i hz
      obtain ⟨h3, h4⟩ := Bool.and_eq_true_iff.mp hz
      have h3' := of_decide_eq_true h3
      have h4' := of_decide_eq_true h4
      exact ⟨_, _, rfl, ⟨h3'.1, h3'.2, h4'.1, h4'.2⟩, h2.ok (Stp.refl t2.mem) it_rng⟩
    · exact h2.elim
  · exact h2.elim
/-- reversed(range(n)) -/
def iRev1 (a : FE) : FI := fun s μ => (a s μ).bind fun u μ1 => match u with
  | .int n => if okR n then .ok (.rng (n.toNat - 1) (-1) n.toNat) μ1 else .bad
  | _ => .bad
theorem ci_rev1 {tg a : Expr} {ma : FE} {p pos p2 pos2 : Pos} (hg : Gl X "reversed") (hm0 : X.mg "reversed" = none) (hg2 : Gl X "range") (hm2 : X.mg "range" = none) (ha : CE X W a ma)
    (hp : ∀ {ta : TE}, PE X a ta → PI X tg (.Call (.Name "reversed" p) [.Call (.Name "range" p2) [a] [] pos2] [] pos) (iRevR (tRg1 ta))) : CI X W tg (.Call (.Name "reversed" p) [.Call (.Name "range" p2) [a] [] pos2] [] pos) (iRev1 ma) := by
  intro ρ μ s σ H R hs hm h
  refine ⟨_, hp pe_w, ?_⟩
  refine ha ρ μ s σ H _ hs hm (h.bind fun u μ1 x H1 ρ1 t1 r1 h1 => ?_)
  split at h1
  · cases r1
    rename_i n
    split at h1
    · rename_i hz
      have hz' := of_decide_eq_true hz
      refine ⟨_, rfl, by decide, by decide, hz'.1, hz'.2, ?_⟩
      have e1 : (n - 0).toNat = n.toNat := by rw [Int.sub_zero]
      have e2 : (0 : Int) + (((n - 0).toNat : Nat) : Int) - 1 = (n.toNat : Int) - 1 := by rw [e1]; omega
      rw [e1, Int.zero_add]
      exact h1.ok (Stp.refl t1.mem) it_rngC
    · exact h1.elim
  · exact h1.elim
theorem it_zipT {K : PySem.W.Frag} {H : Hp} {ρ : List Addr} {a b : Addr} {us ws : List U} {vs xs : List V} (hs : SqT K H a vs) (hr : RepVs K H ρ us vs) (hs2 : SqT K H b xs) (hr2 : RepVs K H ρ ws xs) : ItOk K ρ H (.seq (List.zipWith (fun u w => .tup [u, w]) us ws)) (ItzT K a b) := by
  intro i ρ' H' μ' ex tx hm
  simp only [itemAt]
  have hs' := tx.seq hs
  have hr' := hr.mono tx ex
  have hs2' := tx.seq hs2
  have hr2' := hr2.mono tx ex
  rw [List.getElem?_zipWith]
  cases eu : us[i]? with
  | none =>
    refine ⟨vs, xs, hs', hs2', .inl ?_⟩
    rw [← hr'.length]
    exact List.getElem?_eq_none_iff.mp eu
  | some u =>
    cases ew : ws[i]? with
    | none =>
      refine ⟨vs, xs, hs', hs2', .inr ?_⟩
      rw [← hr2'.length]
      exact List.getElem?_eq_none_iff.mp ew
    | some w =>
      obtain ⟨v, q2, r2⟩ := hr'.get eu
      obtain ⟨v2, q3, r3⟩ := hr2'.get ew
      refine ⟨⟨vs, xs, v, v2, hs', hs2', q2, q3⟩, fun x H'' y => ?_⟩
      obtain ⟨T, x1, y1, rfl, nT, rfl, f1, f2⟩ := y
      have e1 := f1 vs hs'
      rw [q2] at e1
      cases e1
      have e2 := f2 xs hs2'
      rw [q3] at e2
      cases e2
      exact ⟨Stp.temp hm nT, newT nT (.cons r2 (.one r3))⟩
theorem it_zipL {K : PySem.W.Frag} {H : Hp} {ρ : List Addr} {a b : Addr} {r1 r2 : Nat} (h1 : ρ[r1]? = some a) (h2 : ρ[r2]? = some b) : ItOk K ρ H (.zipL r1 r2) (Itz K a b) := by
  intro i ρ' H' μ' ex tx hm
  simp only [itemAt]
  cases e1 : listAt μ' r1 with
  | none => trivial
  | some us =>
    cases e2 : listAt μ' r2 with
    | none => trivial
    | some ws =>
      obtain ⟨vs, q1, rr1⟩ := listAt_ok hm (ex.get h1) e1
      obtain ⟨xs, q2, rr2⟩ := listAt_ok hm (ex.get h2) e2
      simp only
      cases eu : us[i]? with
      | none =>
        refine ⟨vs, xs, q1, q2, .inl ?_⟩
        rw [← rr1.length]
        exact List.getElem?_eq_none_iff.mp eu
      | some u =>
        cases ew : ws[i]? with
        | none =>
          refine ⟨vs, xs, q1, q2, .inr ?_⟩
          rw [← rr2.length]
          exact List.getElem?_eq_none_iff.mp ew
        | some w =>
          obtain ⟨v, q3, r3⟩ := rr1.get eu
          obtain ⟨v2, q4, r4⟩ := rr2.get ew
          refine ⟨⟨vs, xs, v, v2, q1, q2, q3, q4⟩, fun x H'' y => ?_⟩
          obtain ⟨T, x1, y1, rfl, nT, rfl, f1, f2⟩ := y
          have g1 := f1 vs q1
          rw [q3] at g1
          cases g1
          have g2 := f2 xs q2
          rw [q4] at g2
          cases g2
          exact ⟨Stp.temp hm nT, newT nT (.cons r3 (.one r4))⟩
/-- zip of two tuples, of two lists -/
def iZip (a b : FE) : FI := fun s μ => (a s μ).bind fun u μ1 => (b s μ1).bind fun w μ2 => match u, w with
  | .tup us, .tup ws => .ok (.seq (List.zipWith (fun u w => .tup [u, w]) us ws)) μ2
  | .ref r1, .ref r2 => match listAt μ2 r1, listAt μ2 r2 with
    | some _, some _ => .ok (.zipL r1 r2) μ2
    | _, _ => .bad
  | _, _ => .bad
theorem ci_zip {tg a b : Expr} {ma mb : FE} {p pos : Pos} (ha : CE X W a ma) (hb : CE X W b mb)
    (hp : ∀ {ta : TA}, PA X [a, b] ta → PI X tg (.Call (.Name "zip" p) [a, b] [] pos) (iZipA X.K ta)) (hs1 : starEach [a, b] X.env = (false, eval a X.env) :: starEach [b] X.env := by rfl) (hs2 : starEach [b] X.env = (false, eval b X.env) :: starEach [] X.env := by rfl) :
    CI X W tg (.Call (.Name "zip" p) [a, b] [] pos) (iZip ma mb) := by
  intro ρ μ s σ H R hs hm h
  refine ⟨_, hp (pa_cons pe_w (pa_cons pe_w pa_nil hs2) hs1), ?_⟩
  refine ha ρ μ s σ H _ hs hm (h.bind fun u μ1 x H1 ρ1 t1 r1 h1 => ?_)
  refine hb ρ1 μ1 s σ H1 _ (t1.s hs) t1.mem (h1.bind fun w μ2 y H2 ρ2 t2 r2 h2 => ?_)
  have r1' := t2.v r1
  split at h2
  · cases r1' with
    | tup a1 a2 => cases r2 with
      | tup b1 b2 => exact ⟨_, _, _, _, rfl, .inr ⟨a1, b1, h2.ok (Stp.refl t2.mem) (it_zipT a1 a2 b1 b2)⟩⟩
  · cases r1' with
    | ref a1 => cases r2 with
      | ref b1 =>
        split at h2
        · rename_i e1 e2
          obtain ⟨vs, q1, _⟩ := listAt_ok t2.mem a1 e1
          obtain ⟨xs, q2, _⟩ := listAt_ok t2.mem b1 e2
          exact ⟨_, _, _, _, rfl, .inl ⟨q1, q2, h2.ok (Stp.refl t2.mem) (it_zipL a1 b1)⟩⟩
        · exact h2.elim
  · exact h2.elim

/-! ### for -/
def fuelF : Nat := 1000000
def sForGo (g : Tgt) (b : FS) : Nat → IterU → Nat → FS
  | 0, _, _ => fun _ _ => .bad
  | f + 1, it, i => fun s μ => match itemAt it i μ with
    | none => .bad
    | some none => .nx s μ
    | some (some u) => match setT g u s with
      | none => .bad
      | some s1 => match b s1 μ with
        | .nx s2 μ2 => sForGo g b f it (i + 1) s2 μ2
        | .ct s2 μ2 => sForGo g b f it (i + 1) s2 μ2
        | .bk s2 μ2 => .nx s2 μ2
        | o => o
def sFor (it : FI) (g : Tgt) (b : FS) : FS := fun s μ => ofR (it s μ) s fun j μ1 => sForGo g b fuelF j 0 s μ1
theorem cs_for {tg iter : Expr} {body : List Stmt} {mi : FI} {g : Tgt} {b : FS} {pos : Pos} (G : Good X W k) (hi : CI X W tg iter mi) (hg : CG X tg g) (hb : CSs X W body b)
    (hs0 : ∀ x, foldedSetIterable iter X.env x = pure x := by intro _; rfl) : CS X W (.For tg iter body [] pos) (sFor mi g b) := by
  intro ρ μ s σ H D hs hm h
  refine ⟨_, ps_for G.po G.calm pi_w pg_w pss_w hs0, ?_⟩
  refine hi ρ μ s σ H _ hs hm (PostS.bind hs h fun j μ1 J H1 ρ1 t1 r1 h1 => ?_)
  have hJ : ItOk X.K ρ1 H1 j J := r1
  refine ⟨fun i m σ' H' => ∃ ρ' s' μ', Stp X.K ρ1 H1 ρ' H' μ' ∧ RepS X.K H' ρ' s' σ' ∧ PostS X W ρ' H' (sForGo g b m j i s' μ') D, ⟨fuelF, ρ1, s, μ1, Stp.refl t1.mem, t1.s hs, h1⟩, ?_⟩
  intro i m σ' H' ⟨ρ', s', μ', t', hs', h'⟩
  cases m with
  | zero => exact h'.elim
  | succ m =>
    have q := hJ i ρ' H' μ' t'.ext t'.tx t'.mem
    unfold sForGo at h'
    cases e : itemAt j i μ' with
    | none => rw [e] at h'; exact h'.elim
    | some o =>
      rw [e] at h' q
      cases o with
      | none => exact .inl ⟨q, h' σ' H' ρ' (Stp.refl t'.mem) hs'⟩
      | some u =>
        refine .inr ⟨q.1, fun σ2 H2 => ∃ ρ2 s2 μ2, Stp X.K ρ1 H1 ρ2 H2 μ2 ∧ RepS X.K H2 ρ2 s2 σ2 ∧ PostS X W ρ2 H2 (sForGo g b m j (i + 1) s2 μ2) D, fun σ2 H2 z => ⟨m, Nat.lt_succ_self m, z⟩, fun x H'' y => ?_⟩
        obtain ⟨t2, ru⟩ := q.2 x H'' y
        simp only at h'
        cases es : setT g u s' with
        | none => rw [es] at h'; exact h'.elim
        | some s1 =>
          rw [es] at h'
          simp only at h'
          refine hg ρ' s' σ' H'' u x s1 _ (t2.s hs') ru es fun σ3 hs3 _ => ?_
          refine hb ρ' μ' s1 σ3 H'' _ hs3 t2.mem ?_
          cases eb : b s1 μ' with
          | nx s2 μ2 =>
            rw [eb] at h'
            exact fun σ4 H4 ρ4 t r => ⟨ρ4, s2, μ2, (t'.trans t2).trans t, r, PostS.from (t2.trans t) h'⟩
          | ct s2 μ2 =>
            rw [eb] at h'
            exact fun σ4 H4 ρ4 t r => ⟨ρ4, s2, μ2, (t'.trans t2).trans t, r, PostS.from (t2.trans t) h'⟩
          | bk s2 μ2 => rw [eb] at h'; exact PostS.from t2 h'
          | rt u m2 => rw [eb] at h'; exact PostS.from t2 h'
          | ex c2 u m2 => rw [eb] at h'; exact PostS.from t2 h'
          | bad => rw [eb] at h'; exact h'.elim

/-! ### [e for x in xs if t] -/
def wipeU (s : Slots) : List Nat → Slots
  | [] => s
  | v :: vs => (wipeU s vs).set v none
def lcGo (j : IterU) (own : List Nat) (g : Tgt) (t : FT) (e : FE) (s : Slots) (D : Nat) : Nat → Nat → Mem → Res U
  | 0, _, _ => .bad
  | f + 1, i, μ => match itemAt j i μ with
    | none => .bad
    | some none => .ok (.ref D) μ
    | some (some u) => match setT g u (wipeU s own) with
      | none => .bad
      | some s1 => match t s1 μ with
        | .ok true μ3 => match e s1 μ3 with
          | .ok v μ4 => match μ4[D]? with
            | some (.lst acc) => if acc.length < lim then lcGo j own g t e s D f (i + 1) (μ4.set D (.lst (acc ++ [v]))) else .bad
            | _ => .bad
          | _ => .bad
        | .ok false μ3 => lcGo j own g t e s D f (i + 1) μ3
        | _ => .bad
def fLc (it : FI) (own : List Nat) (g : Tgt) (t : FT) (e : FE) : FE := fun s μ => (it s μ).bind fun j μ1 => lcGo j own g t e s μ1.length fuelF 0 (μ1 ++ [.lst []])
def tAll : FT := fun _ μ => .ok true μ
theorem RepS.wipe {K : PySem.W.Frag} {H : Hp} {ρ : List Addr} {s : Slots} {σ : L2.St} (h : RepS K H ρ s σ) : ∀ vs : List Nat, RepS K H ρ (wipeU s vs) (L2.wipe σ vs)
  | [] => h
  | v :: vs => by
    have ih := RepS.wipe h vs
    refine ⟨by simp [wipeU, L2.wipe, ih.len], fun i u e => ?_⟩
    by_cases hv : v = i
    · subst hv
      have : v < (wipeU s vs).length := by
        have := (List.getElem?_eq_some_iff.mp e).1
        simpa [wipeU] using this
      simp only [wipeU] at e
      rw [List.getElem?_set_self this] at e
      cases e
    · simp only [wipeU] at e
      rw [List.getElem?_set_ne hv] at e
      obtain ⟨x, q, r⟩ := ih.get i u e
      refine ⟨x, ?_, r⟩
      show ((L2.wipe σ vs).set v none)[i]? = _
      rw [List.getElem?_set_ne hv]
      exact q
abbrev W0 : WX := fun _ _ _ _ => False
/-- an element of a comprehension, in all the frames that it may have -/
def WEb (X : Cx) (scope : Scope) (e : Expr) : TE := fun σ H Q => ∀ (s : Shared) (H0 : Hp) (C : Addr) (cl : List (Str × Addr)) (fp : List Addr), WE (X.blk s H0 scope (compEnvC scope cl C X.env) fp) e σ H Q
theorem pe_wb {scope : Scope} {e : Expr} (s : Shared) (H0 : Hp) (C : Addr) (cl : List (Str × Addr)) (fp : List Addr) : PE (X.blk s H0 scope (compEnvC scope cl C X.env) fp) e (WEb X scope e) :=
  ⟨fun pins s1 σ H Q I q => pe_w.run pins s1 σ H Q I (q s H0 C cl fp)⟩
def WGb (X : Cx) (scope : Scope) (e : Expr) : TG := fun v σ H Q => ∀ (s : Shared) (H0 : Hp) (C : Addr) (cl : List (Str × Addr)) (fp : List Addr), WG (X.blk s H0 scope (compEnvC scope cl C X.env) fp) e v σ H Q
theorem pg_wb {scope : Scope} {e : Expr} (s : Shared) (H0 : Hp) (C : Addr) (cl : List (Str × Addr)) (fp : List Addr) : PG (X.blk s H0 scope (compEnvC scope cl C X.env) fp) e (WGb X scope e) :=
  ⟨fun pins s1 σ H v u Q I r q => pg_w.run pins s1 σ H v u Q I r (q s H0 C cl fp)⟩
def WTs (X : Cx) (ifs : List Expr) : TT := fun σ H Q => ∃ t, PTs X ifs t ∧ t σ H Q
theorem pts_w {ifs : List Expr} : PTs X ifs (WTs X ifs) := ⟨fun pins s σ H Q I ⟨_, h, q⟩ => h.run pins s σ H Q I q⟩
def CTs (X : Cx) (W : WX) (ifs : List Expr) (m : FT) : Prop := ∀ ρ μ s σ H Q, RepS X.K H ρ s σ → RepM X.K H ρ μ → Post X W σ relB ρ H (m s μ) Q → WTs X ifs σ H Q
theorem cts_nil : CTs X W [] tAll := fun ρ μ s σ H Q hs hm h => ⟨_, pts_nil, h.ok (Stp.refl hm) rfl⟩
theorem cts_one {c : Expr} {t : FT} (h : CT X W c t) : CTs X W [c] t := fun ρ μ s σ H Q hs hm p => ⟨_, pts_one pt_w, h ρ μ s σ H Q hs hm p⟩
def WTb (X : Cx) (scope : Scope) (ifs : List Expr) : TT := fun σ H Q => ∀ (s : Shared) (H0 : Hp) (C : Addr) (cl : List (Str × Addr)) (fp : List Addr), WTs (X.blk s H0 scope (compEnvC scope cl C X.env) fp) ifs σ H Q
theorem pts_wb {scope : Scope} {ifs : List Expr} (s : Shared) (H0 : Hp) (C : Addr) (cl : List (Str × Addr)) (fp : List Addr) : PTs (X.blk s H0 scope (compEnvC scope cl C X.env) fp) ifs (WTb X scope ifs) :=
  ⟨fun pins s1 σ H Q I q => pts_w.run pins s1 σ H Q I (q s H0 C cl fp)⟩
def subT (g : Tgt) (own : List Nat) : Bool := match g with
  | .one i => decide (i ∈ own)
  | .tup is => is.all fun i => decide (i ∈ own)
theorem subT_ok {g : Tgt} {own : List Nat} (h : subT g own = true) : inT g own := by
  cases g with
  | one i =>
    have h' : decide (i ∈ own) = true := h
    have h2 : i ∈ own := of_decide_eq_true h'
    exact h2
  | tup is =>
    have h' : (is.all fun i => decide (i ∈ own)) = true := h
    have h2 : ∀ i ∈ is, i ∈ own := fun i hi => of_decide_eq_true (List.all_eq_true.mp h' i hi)
    exact h2
/-- what a comprehension's reading asks is shown by the mirror's -/
theorem lc_reads {tg iter : Expr} {ifs : List Expr} {elt : Expr} {scope : Scope} {own : List Nat} {mi : FI} {g : Tgt} {t : FT} {e : FE} (hi : CI X W tg iter mi)
    (hg : ∀ s H0 C cl fp, CG (X.blk s H0 scope (compEnvC scope cl C X.env) fp) tg g) (ht : ∀ s H0 C cl fp, CTs (X.blk s H0 scope (compEnvC scope cl C X.env) fp) W0 ifs t)
    (he : ∀ s H0 C cl fp, CE (X.blk s H0 scope (compEnvC scope cl C X.env) fp) W0 elt e) (hsub : subT g own = true)
    {ρ : List Addr} {μ : Mem} {s : Slots} {σ : L2.St} {H : Hp} {Q : VK} (hs : RepS X.K H ρ s σ) (hm : RepM X.K H ρ μ) (h : Post X W σ relV ρ H (fLc mi own g t e s μ) Q) :
    tLc (WI X tg iter) (WGb X scope tg) (WTb X scope ifs) (WEb X scope elt) own σ H Q := by
  refine hi ρ μ s σ H _ hs hm (h.bind fun j μ1 J H1 ρ1 t1 r1 h1 => ?_)
  intro D hD
  have hJ : ItOk X.K ρ1 H1 j J := r1
  have tD := newL t1.mem hD (RepVs.nil (K := X.K) (H := H1) (ρ := ρ1))
  refine ⟨fun i m H' => ∃ ρ' μ', Stp X.K (ρ1 ++ [D]) (upd H1 D (.lst [])) ρ' H' μ' ∧ Post X W σ relV ρ' H' (lcGo j own g t e s μ1.length m i μ') Q, ⟨fuelF, ρ1 ++ [D], μ1 ++ [.lst []], Stp.refl tD.mem, ?_⟩, ?_⟩
  · revert h1
    generalize lcGo j own g t e s μ1.length fuelF 0 (μ1 ++ [.lst []]) = z
    intro h1
    cases z with
    | ok c m2 => exact fun v2 H3 ρ3 t3 q3 => h1 v2 H3 ρ3 (tD.trans t3) q3
    | ex c m2 => exact fun cls H3 ρ3 t3 e => h1 cls H3 ρ3 (tD.trans t3) e
    | bad => exact h1
  intro i m H' ⟨ρ', μ', t', h'⟩
  have hDr : ρ'[μ1.length]? = some D := t'.ext.get (by rw [← t1.mem.len, List.getElem?_append_right (Nat.le_refl _)]; simp)
  cases m with
  | zero => exact h'.elim
  | succ m =>
    have q := hJ i ρ' H' μ' (tD.ext.trans t'.ext) (tD.tx.trans t'.tx) t'.mem
    unfold lcGo at h'
    cases e0 : itemAt j i μ' with
    | none => rw [e0] at h'; exact h'.elim
    | some o =>
      rw [e0] at h' q
      cases o with
      | none => exact .inl ⟨q, h'.ok (Stp.refl t'.mem) (.ref hDr)⟩
      | some u =>
        refine .inr ⟨q.1, fun H2 => ∃ ρ2 μ2, Stp X.K (ρ1 ++ [D]) (upd H1 D (.lst [])) ρ2 H2 μ2 ∧ Post X W σ relV ρ2 H2 (lcGo j own g t e s μ1.length m (i + 1) μ2) Q, fun H2 z => ⟨m, Nat.lt_succ_self m, z⟩, fun x H'' y => ?_⟩
        obtain ⟨t2, ru⟩ := q.2 x H'' y
        simp only at h'
        have hsw : RepS X.K H'' ρ' (wipeU s own) (wipe σ own) := (t2.s (t'.s (tD.s (t1.s hs)))).wipe own
        cases es : setT g u (wipeU s own) with
        | none => rw [es] at h'; exact h'.elim
        | some s1 =>
          rw [es] at h'
          simp only at h'
          intro s0 H0 C cl fp
          refine hg s0 H0 C cl fp ρ' (wipeU s own) (wipe σ own) H'' u x s1 _ hsw ru es fun σ3 hs3 hw => ⟨?_, ?_⟩
          · have := hw own (subT_ok hsub)
            rw [this]
            exact wipe_wipe fun i hi => hi
          · intro s0' H0' C' cl' fp'
            refine ht s0' H0' C' cl' fp' ρ' μ' s1 σ3 H'' _ hs3 t2.mem ?_
            cases et : t s1 μ' with
            | ex c m2 => rw [et] at h'; exact h'.elim
            | bad => rw [et] at h'; exact h'.elim
            | ok b μ3 =>
              rw [et] at h'
              intro b' H4 ρ4 t4 r4
              cases r4
              cases b with
              | false =>
                refine iteF ⟨ρ4, μ3, (t'.trans t2).trans t4, ?_⟩
                simp only at h'
                revert h'
                generalize lcGo j own g t e s μ1.length m (i + 1) μ3 = z
                intro h'
                cases z with
                | ok c m2 => exact fun v2 H3 ρ3 t3 q3 => h' v2 H3 ρ3 ((t2.trans t4).trans t3) q3
                | ex c m2 => exact fun cls H3 ρ3 t3 e => h' cls H3 ρ3 ((t2.trans t4).trans t3) e
                | bad => exact h'
              | true =>
                refine iteT ?_
                intro s0' H0' C' cl' fp'
                refine he s0' H0' C' cl' fp' ρ4 μ3 s1 σ3 H4 _ (t4.s hs3) t4.mem ?_
                simp only at h'
                cases ee : e s1 μ3 with
                | ex c m2 => rw [ee] at h'; exact h'.elim
                | bad => rw [ee] at h'; exact h'.elim
                | ok v μ4 =>
                  rw [ee] at h'
                  simp only at h'
                  intro w H5 ρ5 t5 r5
                  split at h'
                  · rename_i acc em
                    split at h'
                    · rename_i hz
                      have hD5 : ρ5[μ1.length]? = some D := t5.ext.get (t4.ext.get (t2.ext.get hDr))
                      obtain ⟨ws, q5, rr⟩ := lst_of t5.mem hD5 em
                      have t6 := putL t5.mem hD5 em (rr.append (.one r5))
                      refine ⟨ws, q5, by rw [← rr.length]; exact lim_lt hz, ρ5, _, (((t'.trans t2).trans t4).trans t5).trans t6, ?_⟩
                      revert h'
                      generalize lcGo j own g t e s μ1.length m (i + 1) (μ4.set μ1.length (.lst (acc ++ [v]))) = z
                      intro h'
                      cases z with
                      | ok c m2 => exact fun v2 H3 ρ3 t3 q3 => h' v2 H3 ρ3 ((((t2.trans t4).trans t5).trans t6).trans t3) q3
                      | ex c m2 => exact fun cls H3 ρ3 t3 e => h' cls H3 ρ3 ((((t2.trans t4).trans t5).trans t6).trans t3) e
                      | bad => exact h'
                    · exact h'.elim
                  · exact h'.elim
theorem ce_lc {tg iter : Expr} {ifs : List Expr} {elt : Expr} {scope : Scope} {own : List (Str × Nat)} {pos : Pos} {mi : FI} {g : Tgt} {t : FT} {e : FE} (G : Good X W k) (hN : X.N.Nodup) (ok : BlkOk X.N X.env.scope scope own) (hi : CI X W tg iter mi)
    (hg : ∀ s H0 C cl fp, CG (X.blk s H0 scope (compEnvC scope cl C X.env) fp) tg g) (ht : ∀ s H0 C cl fp, CTs (X.blk s H0 scope (compEnvC scope cl C X.env) fp) W0 ifs t)
    (he : ∀ s H0 C cl fp, CE (X.blk s H0 scope (compEnvC scope cl C X.env) fp) W0 elt e) (hsub : subT g (own.map (·.2)) = true) (hs0 : ∀ x, foldedSetIterable iter X.env x = pure x := by intro _; rfl) :
    CE X W (.ListComp elt [⟨tg, iter, ifs, 0⟩] scope pos) (fLc mi (own.map (·.2)) g t e) :=
  fun ρ μ s σ H Q hs hm h => ⟨_, pe_lc G.calm hN pi_w ok pg_wb pts_wb pe_wb hs0, lc_reads hi hg ht he hsub hs hm h⟩
theorem cs_setLc {i : Nat} {y : Str} {py : Pos} {tg iter : Expr} {ifs : List Expr} {elt : Expr} {scope : Scope} {own : List (Str × Nat)} {pos spos : Pos} {mi : FI} {g : Tgt} {t : FT} {e : FE} (G : Good X W k) (hN : X.N.Nodup) (hy : X.N[i]? = some y) (hyl : X.env.scope.names.lookup y = some .local)
    (hsw : swapsWith (.ListComp elt [⟨tg, iter, ifs, 0⟩] scope pos) (some (.Name y py)) spos.line X.env = pure true) (ok : BlkOk X.N X.env.scope scope own) (hi : CI X W tg iter mi)
    (hg : ∀ s H0 C cl fp, CG (X.blk s H0 scope (compEnvC scope cl C X.env) fp) tg g) (ht : ∀ s H0 C cl fp, CTs (X.blk s H0 scope (compEnvC scope cl C X.env) fp) W0 ifs t)
    (he : ∀ s H0 C cl fp, CE (X.blk s H0 scope (compEnvC scope cl C X.env) fp) W0 elt e) (hsub : subT g (own.map (·.2)) = true)
    (hp : ∀ {wi : TI} {gg : TG} {tt : TT} {te : TE}, PI X tg iter wi → (∀ (s : Shared) (H : Hp) (C : Addr) (cl : List (Str × Addr)) (fp : List Addr), PG (X.blk s H scope (compEnvC scope cl C X.env) fp) tg gg) → (∀ (s : Shared) (H : Hp) (C : Addr) (cl : List (Str × Addr)) (fp : List Addr), PTs (X.blk s H scope (compEnvC scope cl C X.env) fp) ifs tt) →
      (∀ (s : Shared) (H : Hp) (C : Addr) (cl : List (Str × Addr)) (fp : List Addr), PE (X.blk s H scope (compEnvC scope cl C X.env) fp) elt te) → PS X (.Assign [.Name y py] (.ListComp elt [⟨tg, iter, ifs, 0⟩] scope pos) spos) (tAsg (tLc wi gg tt te (own.map (·.2))) (gName i))) :
    CS X W (.Assign [.Name y py] (.ListComp elt [⟨tg, iter, ifs, 0⟩] scope pos) spos) (sAsg (.one i) (fLc mi (own.map (·.2)) g t e)) := by
  intro ρ μ s σ H D hs hm h
  refine ⟨_, hp pi_w pg_wb pts_wb pe_wb, ?_⟩
  refine lc_reads (W := W) hi hg ht he hsub hs hm ?_
  exact PostS.bind hs h fun u μ1 x H1 ρ1 t1 r1 h1 => h1 _ H1 ρ1 (Stp.refl t1.mem) ((t1.s hs).set r1)

/-! ### a def -/
def spF (K : PySem.W.Frag) (mg : Str → Option Value) (n : Nat) (g : List U → Mem → Res U) : Sp := fun vs H Q E => vs.length = n ∧ ∃ ρ μ us, RepVs K H ρ us vs ∧ RepM K H ρ μ ∧ match g us μ with
  | .ok u μ' => ∀ v H' ρ', Stp K ρ H ρ' H' μ' → RepV K H' ρ' u v → Q v H'
  | .ex c μ' => ∀ cls H' ρ', Stp K ρ H ρ' H' μ' → mg c = some cls → E cls none H'
  | .bad => False
def fDef (n : Nat) (g : List U → Mem → Res U) (a : FA) : FE := fun s μ => (a s μ).bind fun us μ1 => if us.length = n then g us μ1 else .bad
theorem ce_def {f : Addr} {fd : FuncData} {ps : List Str} {g : List U → Mem → Res U} {x : Str} {e : Expr} {es : List Expr} {ma : FA} {p pos : Pos} {j : Nat} (G : Good X W j) (hj : k ≤ j) (F : FnOk X.prog X.w X.K X.mg X.base (L2.CX X.prog X.w) k f fd ps (spF X.K X.mg ps.length g))
    (ha : CA X W (e :: es) ma) (hp : ∀ {E : L2.St → XK} {t : TA}, (∀ σ, PassesAt (L2.CX X.prog X.w) X σ (E σ)) → PA X (e :: es) t → PE X (.Call (.Name x p) (e :: es) [] pos) (tCallS (spF X.K X.mg ps.length g) E t)) :
    CE X W (.Call (.Name x p) (e :: es) [] pos) (fDef ps.length g ma) := by
  intro ρ μ s σ H Q hs hm h
  refine ⟨_, hp (fun σ => passAt G.tk σ) pa_w, ?_⟩
  refine ha ρ μ s σ H _ hs hm (h.bind fun us μ1 vs H1 ρ1 t1 r1 h1 => ?_)
  split at h1
  · rename_i hl
    refine ⟨by rw [← RepVs.length r1]; exact hl, ρ1, μ1, us, r1, t1.mem, ?_⟩
    generalize g us μ1 = z at h1
    cases z with
    | ok u m => exact fun v H' ρ' t r => h1 v H' ρ' t r
    | ex c m => exact fun cls H' ρ' t e => h1 cls H' ρ' t e
    | bad => exact h1
  · exact h1.elim
def runDef (n : Nat) (body : FS) (us : List U) (μ : Mem) : Res U := match body (us.map some ++ List.replicate (n - us.length) none) μ with
  | .nx _ μ' => .ok .non μ'
  | .rt u μ' => .ok u μ'
  | .ex c _ μ' => .ex c μ'
  | _ => .bad
theorem RepS.start {K : PySem.W.Frag} {H : Hp} {ρ : List Addr} {us : List U} {vs : List V} {N : List Str} (r : RepVs K H ρ us vs) : RepS K H ρ (us.map some ++ List.replicate (N.length - us.length) none) (start N vs) := by
  refine ⟨by unfold L2.start; simp [r.length], fun i u e => ?_⟩
  by_cases hi : i < us.length
  · rw [List.getElem?_append_left (by simpa using hi), List.getElem?_map] at e
    cases eu : us[i]? with
    | none => rw [eu] at e; cases e
    | some w =>
      rw [eu] at e
      cases e
      obtain ⟨v, q, rr⟩ := r.get eu
      refine ⟨v, ?_, rr⟩
      unfold L2.start
      rw [List.getElem?_append_left (by rw [List.length_map, ← r.length]; exact hi), List.getElem?_map, q]
      rfl
  · rw [List.getElem?_append_right (by simpa using Nat.le_of_not_lt hi)] at e
    have := List.mem_of_getElem? e
    simp at this
theorem def_ok {P : Program} {w : World} {K : PySem.W.Frag} {mg : Str → Option Value} {base : Heap} {x qual : Str} {st : Stmt} {f : Addr} {fd : FuncData} {N ps : List Str} {k : Nat} {body : FS} (F : Fun K x qual st f fd) (S : FnScope N ps (defScope st))
    (hb : ∀ (cdv : Value) (A : Around) (outer : List Env) (s : Shared) (H : Hp) (E : XK), Good (cxOf (L2.CX P w) P w K mg base N qual (defScope st) f cdv A outer s H E) (fun cls d _ H => E cls d H) k →
      CSs (cxOf (L2.CX P w) P w K mg base N qual (defScope st) f cdv A outer s H E) (fun cls d _ H => E cls d H) (defBody st) body) :
    FnOk P w K mg base (L2.CX P w) (k + 1) f fd ps (spF K mg ps.length (runDef N.length body)) := by
  refine F.okX S (fun vs H Q E h => h.1) (fun cdv A outer s H vs Q E hr h => ?_)
  obtain ⟨hl, ρ, μ, us, r, hm, hq⟩ := h
  have G : Good (cxOf (L2.CX P w) P w K mg base N qual (defScope st) f cdv A outer s H E) (fun cls d _ H => E cls d H) k := ⟨rfl, hr, takes_of rfl rfl rfl rfl, passes_of rfl⟩
  refine hb cdv A outer s H E G ρ μ _ _ H _ (RepS.start r) hm ?_
  unfold runDef at hq
  cases e : body (us.map some ++ List.replicate (N.length - us.length) none) μ with
  | nx s' m => rw [e] at hq; exact fun σ' H' ρ' t _ => hq _ H' ρ' t .non
  | rt u m => rw [e] at hq; exact fun v H' ρ' t r => hq v H' ρ' t r
  | bk s' m => rw [e] at hq; exact hq.elim
  | ct s' m => rw [e] at hq; exact hq.elim
  | ex c s' m => rw [e] at hq; exact fun cls σ' H' ρ' t _ eq => hq cls H' ρ' t eq
  | bad => rw [e] at hq; exact hq.elim
end
end Dg
/-! Dg6: further rules: extend by a tuple, dict copies and displays, reversed copies, constants of the module, the end. -/
namespace Dg
open PySem PySem.Spec PyProof.Rows L2 RZ

/-! ### xs.extend(ys), ys a list or a tuple -/
theorem mt_extendA {X : Cx} : MtR X "list.extend" (fun x vs H Q => ∃ l b xs zs, x = .ref l ∧ vs = [.ref b] ∧ H l = some (.lst xs) ∧ (SqL X.K H b zs ∨ SqT X.K H b zs) ∧ xs.length + zs.length ≤ sizeLine ∧ Q .non (upd H l (.lst (xs ++ zs)))) := by
  intro pins s σ H x vs v us Q I rx rv h
  obtain ⟨l, b, xs, zs, rfl, rfl, hH, hB, hz, q⟩ := h
  cases rx
  obtain ⟨u, rfl, ru⟩ := rv.one
  cases ru
  obtain ⟨z, its, n, r, hl, e⟩ := I.lstM hH
  have main : ∀ (T : String) (hT : T = "list" ∨ T = "tuple") (its2 : List Value) (o : Obj) (n2 : Nat), Vals zs its2 → s.heap.get? b = some o → o.cls = .type T → o.data = .seq its2.toArray n2 →
      wpAny (model X.prog X.w) X.A (call (.builtin "list.extend") [.ref l, .ref b]) (EP X pins σ Q) X.xe s := by
    intro T hT its2 o n2 r2 ho hc hd
    have hsz : its.toArray.size + its2.toArray.size ≤ sizeLine := by
      rw [List.size_toArray, List.size_toArray, ← r.length, ← r2.length]; exact hz
    have hlong : (!its.toArray.isEmpty && Builtin.List.listTooLong (its.toArray.size + its2.toArray.size)) = false := by
      rw [notLongL hsz, Bool.and_false]
    refine call_meets (S := fun _ R s' => s' = s ∧ R (.ok (.ret Value.none)) { s with heap := s.heap.update l (Obj.mapSeq fun x => x ++ its2.toArray) }) F.slot_list_extend ⟨_, e, rfl⟩ F.entry_list_extend (F.args_list_extend_2 _ _) ?_ ⟨rfl, ?_⟩
    · intro prog w A R s' hs
      obtain ⟨rfl, hR⟩ := hs
      show wpAny _ A.in1 (Builtin.List.listExtendWith (.ref l) (.ref b) .none) _ _ _
      unfold Builtin.List.listExtendWith
      refine wpAny_bind (wpAny_typeOf ⟨o, ho, hc⟩ ?_)
      have h1 : (Builtin.List.listSameRef (.ref l) (.ref b) || Value.type T == Value.type "list" || Value.type T == Value.type "tuple") = true := by
        rcases hT with rfl | rfl <;> simp
      simp only [h1, if_true]
      refine wpAny_bind ?_
      unfold Builtin.List.listItems
      refine wpAny_bind (wpAny_seqItems ho hd (wpAny_pure ?_))
      refine wpAny_bind ?_
      refine wpAny_bind (wpAny_seqItems e rfl (wpAny_pure ?_))
      rw [hlong]
      simp only [Bool.false_eq_true, if_false]
      refine wpAny_bind (wpAny_updateSeq e rfl ?_)
      exact wpAny_pure hR
    · refine ⟨.non, _, I.lset (its' := its ++ its2) (t' := s.toks) hH e (by simp) (r.append r2) ?_, rfl, q⟩
      rw [List.length_append]; exact hz
  rcases hB with hB | hB
  · obtain ⟨its2, r2, pl, hz2⟩ := I.list hB
    obtain ⟨o, ho, hc, n2, hd⟩ := pl.isList
    exact main "list" (.inl rfl) its2 o n2 r2 ho hc hd
  · obtain ⟨its2, r2, pl, hz2⟩ := I.tuple hB
    obtain ⟨o, ho, hc, n2, hd⟩ := pl
    exact main "tuple" (.inr rfl) its2 o n2 r2 ho hc hd
section
variable {X : Cx} {W : WX} {k : Nat}
def gExt (u : U) (us : List U) (μ : Mem) : Res U := match u, us with
  | .ref i, [w] => match μ[i]?, seqU μ w with
    | some (.lst xs), some ys => if xs.length + ys.length ≤ lim then .ok .non (μ.set i (.lst (xs ++ ys))) else .bad
    | _, _ => .bad
  | _, _ => .bad
theorem gs_ext : MtS X W "list.extend" gExt := by
  intro ρ μ σ H u us x vs Q hm ru rus h
  unfold gExt at h
  split at h
  · split at h
    · rename_i e e2
      split at h
      · cases ru with
        | ref hr =>
          cases rus with
          | cons r1 r2 =>
            cases r2
            obtain ⟨ws, q, rr⟩ := lst_of hm hr e
            obtain ⟨b, zs, rfl, q2, rr2⟩ := seqU_ok hm r1 e2
            exact ⟨_, mt_extendA, _, b, ws, zs, rfl, rfl, q, q2, by rw [← rr.length, ← rr2.length]; exact lim_le (by assumption), h.ok (putL hm hr e (rr.append rr2)) .non⟩
      · exact h.elim
    · exact h.elim
  · exact h.elim

/-! ### xs[::-1] -/
def fRevL (a : FE) : FE := fun s μ => (a s μ).bind fun u μ1 => match lstU μ1 u with
  | some us => .ok (.ref μ1.length) (μ1 ++ [.lst us.reverse])
  | none => .bad
theorem ce_revL {e : Expr} {me : FE} {j : Nat} {p1 p2 p3 pos : Pos} (he : CE X W e me) : CE X W (.Subscript e (.Slice none none (some (.UnaryOp .USub (.Constant (.int 1) j p1) p2)) p3) pos) (fRevL me) := by
  intro ρ μ s σ H Q hs hm h
  refine ⟨_, pe_revL pe_w, ?_⟩
  refine he ρ μ s σ H _ hs hm (h.bind fun u μ1 x H1 ρ1 t1 r1 h1 => ?_)
  split at h1
  · rename_i us e1
    obtain ⟨a, vs, rfl, q1, r2⟩ := lstU_ok t1.mem r1 e1
    exact ⟨_, _, rfl, q1, fun p np => h1.ok (newL t1.mem np r2.reverse) (refN t1.mem)⟩
  · exact h1.elim

/-! ### dict(d), {}, {k: v, ..} -/
def bDict (us : List U) (μ : Mem) : Res U := match us with
  | [u] => match dctU μ u with
    | some kus => .ok (.ref μ.length) (μ ++ [.dct kus])
    | none => .bad
  | _ => .bad
theorem cs_dict : CallS X W (.type "dict") bDict := by
  intro ρ μ σ H us vs Q hm r h
  unfold bDict at h
  split at h
  · cases r with
    | cons ru r0 =>
      cases r0
      split at h
      · rename_i kus e
        obtain ⟨a, kvs, rfl, q1, r1⟩ := dct_at hm ru e
        exact ⟨_, call_dictD, a, kvs, rfl, .inl q1, fun p np => h.ok (newD hm np r1) (refN hm)⟩
      · exact h.elim
  · exact h.elim
def fD0 : FE := fun _ μ => .ok (.ref μ.length) (μ ++ [.dct []])
theorem ce_d0 {pos : Pos} : CE X W (.Dict [] [] pos) fD0 := fun ρ μ s σ H Q hs hm h => ⟨_, pe_dnewK, fun p np => h.ok (newD hm np RepKV.nil) (refN hm)⟩

/-! ### constants of the module -/
def GlobC (K : PySem.W.Frag) (mg : Str → Option Value) (x : Str) (u : U) : Prop := ∃ z v, mg x = some z ∧ RelV v z ∧ ∀ H ρ, RepV K H ρ u v
theorem ce_globC {x : Str} {u : U} {pos : Pos} (hg : Gl X x) (h : GlobC X.K X.mg x u) (hd : (x == ("__debug__" : Str)) = false := by decide) : CE X W (.Name x pos) (fC u) := by
  obtain ⟨z, v, h1, h2, h3⟩ := h
  exact ce_glob hg h1 h2 h3 hd
/-- a dict of the module with text keys, asked by a key that is there -/
def KTab (K : PySem.W.Frag) (mg : Str → Option Value) (w : World) (x : Str) (tab : List (Str × U)) : Prop := ∃ a, mg x = some (.ref a) ∧ ∀ z u, tab.lookup z = some u → ∃ v, KDct K w a z v ∧ ∀ H ρ, RepV K H ρ u v
def fKGet (tab : List (Str × U)) (i : FE) : FE := fun s μ => (i s μ).bind fun u μ1 => match u with
  | .str z => opt (tab.lookup z) μ1
  | _ => .bad
theorem ce_kget {x : Str} {tab : List (Str × U)} {i : Expr} {mi : FE} {p pos : Pos} (hg : Gl X x) (h : KTab X.K X.mg X.w x tab) (hi : CE X W i mi) (hp : PlainIx i := by exact fun _ _ => rfl) (hd : (x == ("__debug__" : Str)) = false := by decide) :
    CE X W (.Subscript (.Name x p) i pos) (fKGet tab mi) := by
  intro ρ μ s σ H Q hs hm q
  obtain ⟨a, h1, h2⟩ := h
  refine ⟨_, pe_ix ix_kdict (pe_glob hg h1 (v := .ref a) rfl hd) pe_w hp, ?_⟩
  refine hi ρ μ s σ H _ hs hm (q.bind fun u μ1 y H1 ρ1 t1 r1 h3 => ?_)
  split at h3
  · rename_i z
    cases r1
    cases e : tab.lookup z with
    | none => rw [e] at h3; exact h3.elim
    | some w =>
      rw [e] at h3
      obtain ⟨v, h4, h5⟩ := h2 z w e
      exact ⟨a, z, v, rfl, rfl, h4, h3.ok (Stp.refl t1.mem) (h5 _ _)⟩
  · exact h3.elim

/-! ### a def without arguments -/
theorem pe_call0S {f : Addr} {fd : FuncData} {ps : List Str} {sp : Sp} {CX : CXT} {E : L2.St → XK} {x : Str} {p pos : Pos} (F : FnOk X.prog X.w X.K X.mg X.base CX k f fd ps sp) (hr : Room k X.A) (hg : Gl X x) (hm : X.mg x = some (.ref f)) (hk : PySem.W.keepIn X.K (.ref f) = true) (hb : Binds X.K fd ps []) (hx : ∀ σ, PassesAt CX X σ (E σ))
    (hdb : (x == ("__debug__" : Str)) = false := by decide) : PE X (.Call (.Name x p) [] [] pos) (fun σ H Q => sp [] H Q (E σ)) := by
  refine ⟨fun pins s σ H Q I h => ?_⟩
  refine wpAny_Call_Name_kw (ld_glob I hg hm ?_ hdb)
  exact PySem.W.callWith_K0 I.kIn hk (run_fnS (us := []) F hr hb (hx σ) I .nil h)
theorem ce_def0 {f : Addr} {fd : FuncData} {ps : List Str} {g : List U → Mem → Res U} {x : Str} {p pos : Pos} {j : Nat} (G : Good X W j) (F : FnOk X.prog X.w X.K X.mg X.base (L2.CX X.prog X.w) k f fd ps (spF X.K X.mg ps.length g))
    (hp : ∀ {E : L2.St → XK}, (∀ σ, PassesAt (L2.CX X.prog X.w) X σ (E σ)) → PE X (.Call (.Name x p) [] [] pos) (fun σ H Q => spF X.K X.mg ps.length g [] H Q (E σ))) :
    CE X W (.Call (.Name x p) [] [] pos) (fDef ps.length g aNil) := by
  intro ρ μ s σ H Q hs hm h
  refine ⟨_, hp (fun σ => passAt G.tk σ), ?_⟩
  have h1 : Post X W σ relV ρ H (if ([] : List U).length = ps.length then g [] μ else .bad) Q := h
  split at h1
  · rename_i hl
    refine ⟨hl, ρ, μ, [], .nil, hm, ?_⟩
    generalize g [] μ = z at h1
    cases z with
    | ok u m => exact fun v H' ρ' t r => h1 v H' ρ' t r
    | ex c m => exact fun cls H' ρ' t e => h1 cls H' ρ' t e
    | bad => exact h1
  · exact h1.elim

/-! ### a comprehension's frame -/
theorem Good.blk {s : Shared} {H : Hp} {scope : Scope} {cenv : Env} {fp : List Addr} (G : Good X W k) : Good (X.blk s H scope cenv fp) W0 k := ⟨G.calm, ⟨G.room.hd, G.room.dp, G.room.un⟩, takes0, PassesOwn.never⟩
end

/-! ### a def that is never well asked -/
theorem fn_bad {P : Program} {w : World} {K : PySem.W.Frag} {mg : Str → Option Value} {base : Heap} {CX : CXT} {k : Nat} {f : Addr} {fd : FuncData} {ps : List Str} : FnOk P w K mg base CX k f fd ps (spF K mg ps.length fun _ _ => .bad) := by
  have no : ∀ vs H Q E, ¬ spF K mg ps.length (fun _ _ => .bad) vs H Q E := fun vs H Q E ⟨_, _, _, _, _, _, h⟩ => h
  exact ⟨fun vs H Q E h => h.1, fun A outer s H args us vs Q E _ _ _ _ h => absurd h (no vs H Q E)⟩

/-! ### the end of a law -/
theorem end_of {K : PySem.W.Frag} {mg : Str → Option Value} {g : List U → Mem → Res U} {H : Hp} {a : Addr} {ns : List Int} (h : ∃ μ, g [.frl (ns.map U.int)] [] = .ok (.bl true) μ) (ho : Only H) (hS : SqL K H a (ns.map V.int)) :
    spF K mg 1 g [.ref a] H (fun v _ => v = .bl true) fun _ _ _ => False := by
  obtain ⟨μ, e⟩ := h
  have fr : FrL K H a (ns.map V.int) := by
    rcases hS with (h | ⟨o, h⟩) | h
    · rcases ho a with q | ⟨o, xs, q⟩ <;> (rw [h] at q; cases q)
    · exact .inl ⟨o, h⟩
    · exact .inr h
  refine ⟨rfl, [], [], [.frl (ns.map U.int)], .one (.frl fr (RepVs.ofInts ns)), ⟨rfl, List.nodup_nil, fun i c e => by simp at e⟩, ?_⟩
  rw [e]
  intro v H' ρ' _ r
  cases r
  rfl

/-! ### built-ins by name -/
theorem bt_len : bootBuiltins "len" = some (.builtin "len") := by decide +kernel
theorem bt_abs : bootBuiltins "abs" = some (.builtin "abs") := by decide +kernel
theorem bt_max : bootBuiltins "max" = some (.builtin "max") := by decide +kernel
theorem bt_min : bootBuiltins "min" = some (.builtin "min") := by decide +kernel
theorem bt_sum : bootBuiltins "sum" = some (.builtin "sum") := by decide +kernel
theorem bt_all : bootBuiltins "all" = some (.builtin "all") := by decide +kernel
theorem bt_any : bootBuiltins "any" = some (.builtin "any") := by decide +kernel
theorem bt_sorted : bootBuiltins "sorted" = some (.builtin "sorted") := by decide +kernel
theorem bt_isinstance : bootBuiltins "isinstance" = some (.builtin "isinstance") := by decide +kernel
theorem bt_int : bootBuiltins "int" = some (.type "int") := by decide +kernel
theorem bt_bool : bootBuiltins "bool" = some (.type "bool") := by decide +kernel
theorem bt_str : bootBuiltins "str" = some (.type "str") := by decide +kernel
theorem bt_list : bootBuiltins "list" = some (.type "list") := by decide +kernel
theorem bt_tuple : bootBuiltins "tuple" = some (.type "tuple") := by decide +kernel
theorem bt_dict : bootBuiltins "dict" = some (.type "dict") := by decide +kernel
theorem kt_int : ∀ t ∈ ["NoneType", "bool", "int", "str", "tuple", "list", "dict"], kitB t "int" = some (isTy "int" t) := by decide +kernel
theorem kt_bool : ∀ t ∈ ["NoneType", "bool", "int", "str", "tuple", "list", "dict"], kitB t "bool" = some (isTy "bool" t) := by decide +kernel
theorem kt_str : ∀ t ∈ ["NoneType", "bool", "int", "str", "tuple", "list", "dict"], kitB t "str" = some (isTy "str" t) := by decide +kernel
theorem kt_list : ∀ t ∈ ["NoneType", "bool", "int", "str", "tuple", "list", "dict"], kitB t "list" = some (isTy "list" t) := by decide +kernel
theorem kt_tuple : ∀ t ∈ ["NoneType", "bool", "int", "str", "tuple", "list", "dict"], kitB t "tuple" = some (isTy "tuple" t) := by decide +kernel
theorem kt_dict : ∀ t ∈ ["NoneType", "bool", "int", "str", "tuple", "list", "dict"], kitB t "dict" = some (isTy "dict" t) := by decide +kernel
end Dg
/-! Dg7: the head's facts for the mirror: constants by value, tables, defs. -/
namespace Dg
open PySem PySem.Spec PyProof.Rows L2 RZ

/-! ### a value of the written part is one of the mirror's -/
def repB (K : PySem.W.Frag) : Nat → Value → U → Bool
  | 0, _, _ => false
  | n + 1, v, u => match u with
    | .non => (match v with
      | .none => true
      | _ => false)
    | .bl b => (match v with
      | .bool c => decide (c = b)
      | _ => false)
    | .int i => (match v with
      | .int j _ => decide (j = i)
      | _ => false)
    | .str x => (match v with
      | .str y _ => decide (y = x) && PyData.strOk x
      | _ => false)
    | .tup us => (match v with
      | .ref a => (match K.lookup a with
        | some ⟨.type c, _, .seq its _, _⟩ => decide (c = "tuple") && (Nat.ble its.size 1000 && (decide (its.toList.length = us.length) && (its.toList.zip us).all fun p => repB K n p.1 p.2))
        | _ => false)
      | _ => false)
    | _ => false
def Reps (K : PySem.W.Frag) (v : Value) (u : U) : Prop := ∃ x, RelV x v ∧ ∀ H ρ, RepV K H ρ u x
theorem reps_all {K : PySem.W.Frag} {n : Nat} (ih : ∀ v u, repB K n v u = true → Reps K v u) : ∀ (its : List Value) (us : List U), its.length = us.length → ((its.zip us).all fun p => repB K n p.1 p.2) = true → ∃ vs, Vals vs its ∧ ∀ H ρ, RepVs K H ρ us vs
  | [], [], _, _ => ⟨[], .nil, fun _ _ => .nil⟩
  | [], _ :: _, h, _ => by simp at h
  | _ :: _, [], h, _ => by simp at h
  | v :: its, u :: us, h, q => by
    simp only [List.zip_cons_cons, List.all_cons, Bool.and_eq_true] at q
    obtain ⟨x, r1, r2⟩ := ih v u q.1
    obtain ⟨vs, s1, s2⟩ := reps_all ih its us (by simpa using h) q.2
    exact ⟨x :: vs, .cons r1 s1, fun H ρ => .cons (r2 H ρ) (s2 H ρ)⟩
theorem repB_ok {K : PySem.W.Frag} : ∀ (n : Nat) (v : Value) (u : U), repB K n v u = true → Reps K v u
  | 0, _, _, h => by simp [repB] at h
  | n + 1, v, u, h => by
    cases u with
    | non => cases v <;> first | exact ⟨.non, rfl, fun _ _ => .non⟩ | (simp [repB] at h)
    | bl b => cases v <;> first | (simp [repB] at h; subst h; exact ⟨.bl _, rfl, fun _ _ => .bl⟩) | (simp [repB] at h)
    | int i => cases v <;> first | (simp [repB] at h; subst h; exact ⟨.int _, ⟨_, rfl⟩, fun _ _ => .int⟩) | (simp [repB] at h)
    | str x => cases v <;> first | (simp [repB] at h; obtain ⟨h1, h2⟩ := h; subst h1; exact ⟨.str _, ⟨_, rfl⟩, fun _ _ => .str h2⟩) | (simp [repB] at h)
    | tup us =>
      cases v with
      | ref a =>
        simp only [repB] at h
        split at h
        · rename_i o c od its m sl e
          simp only [Bool.and_eq_true, decide_eq_true_eq] at h
          obtain ⟨h1, h2, h3, h4⟩ := h
          subst h1
          obtain ⟨vs, s1, s2⟩ := reps_all (fun v u q => repB_ok n v u q) its.toList us h3 h4
          refine ⟨.ref a, rfl, fun H ρ => .tup (.inr ⟨_, its, m, e, rfl, rfl, ?_, s1⟩) (s2 H ρ)⟩
          exact Nat.le_trans (Nat.le_of_ble_eq_true h2) (by decide)
        · cases h
      | _ => simp [repB] at h
    | ref i => simp [repB] at h
    | frl us => simp [repB] at h

/-! ### the facts -/
def keyN (e : DictEntry) : Option Str := match e.key with
  | .str x _ => some x
  | _ => none
def keysB (K : PySem.W.Frag) (a : Addr) (ks : List Str) : Bool := match K.lookup a with
  | some ⟨_, _, .dict es _, _⟩ => decide (es.toList.map keyN = ks.map some)
  | _ => false
inductive FaU where
  | con (x : Str) (u : U)
  | tab (x : Str) (kvs : List (Str × U))
  | isx (x y : Str) (b : Bool)
  | isv (x y : Str) (b : Bool)
  | keys (x : Str) (ks : List Str)
def exC (K : PySem.W.Frag) (D : Addr) : Bool := He.eqO (PySem.W.findIn K (.ref D) "__getattribute__") (some (some (.builtin "BaseException.__getattribute__"))) && (He.eqO (PySem.W.findIn K (.ref D) "__getattr__") (some none) &&
  (decide (PySem.W.subIn K (.ref D) (.type "BaseException") = some true) && (PySem.W.hasDictIn K D && (He.eqO (PySem.W.findIn K (.ref D) "__class__") (some (some (.builtin "object.__class__"))) &&
  (He.eqO (PySem.W.specialIn K (.builtin "object.__class__") "__get__") (some (some (.builtin "getset_descriptor.__get__"))) && (decide (PySem.W.takesIn K (.builtin "object.__class__") = some true) && decide (PySem.W.mroIn K D (.type "object") = some true)))))))
def FaU.ok (K : PySem.W.Frag) : FaU → Bool
  | .con x u => (match PySem.W.nsIn K mainGlobals x with
    | some (some v) => repB K 12 v u
    | _ => false)
  | .tab x kvs => kvs.all fun q => (match PySem.W.nsIn K (He.ga K x) q.1 with
    | some (some v) => repB K 12 v q.2
    | _ => false)
  | .isx x y b => exC K (He.ga K x) && decide (PySem.W.kitOne K (.ref (He.ga K x)) (.ref (He.ga K y)) = some b)
  | .isv x y b => exC K (He.ga K x) && decide (y = ("ValueError" : Str)) && decide (PySem.W.kitOne K (.ref (He.ga K x)) (.type "ValueError") = some b)
  | .keys x ks => keysB K (He.ga K x) ks
abbrev AlU : Type := He.AlT × Bool
def obsU (fa : List He.Fa) (fn : List He.DefD) (ts : List He.Tab) (fu : List FaU) (K : PySem.W.Frag) : AlU := (He.obsT fa fn ts K, fu.all fun f => f.ok K)
def valU' (fn : List He.DefD) (ts : List He.Tab) (w : World) : AlU := (He.valT fn ts w, true)
def SaysU (fa : List He.Fa) (fn : List He.DefD) (ts : List He.Tab) (fu : List FaU) (w : World) (K : PySem.W.Frag) : Prop := obsU fa fn ts fu K = valU' fn ts w
def obsUG (n : Nat) (fa : List He.Fa) (fn : List He.DefD) (ts : List He.Tab) (fu : List FaU) (g : Addr → Option Obj) : AlU := obsU fa fn ts fu (He.frG g (He.asD g n))
def hookU (n : Nat) (fa : List He.Fa) (fn : List He.DefD) (ts : List He.Tab) (fu : List FaU) : PySem.W.Hook where
  α := AlU
  obs := fun s => obsUG n fa fn ts fu s.heap.get?
  val := fun w => valU' fn ts w
  says := fun w h => ∃ K : PySem.W.Frag, K.In h ∧ SaysU fa fn ts fu w K
  of := fun _ _ e => ⟨_, He.frG_in, e⟩
  keeps := fun _ _ _ ⟨K, hK, c⟩ k => ⟨K, PySem.W.Frag.In.keeps hK k, c⟩
theorem obsUG_eq {n : Nat} {fa : List He.Fa} {fn : List He.DefD} {ts : List He.Tab} {fu : List FaU} {g : Addr → Option Obj} {s : Shared} (h : ∀ a, g a = s.heap.get? a) : obsUG n fa fn ts fu g = (hookU n fa fn ts fu).obs s := by
  have e : g = s.heap.get? := funext h
  rw [e] <;> rfl
section
variable {fa : List He.Fa} {fn : List He.DefD} {ts : List He.Tab} {fu : List FaU} {w : World} {K : PySem.W.Frag} {h : Heap} {mg : Str → Option Value}
theorem SaysU.t (c : SaysU fa fn ts fu w K) : He.SaysT fa fn ts w K := congrArg (fun z : AlU => z.1) c
theorem SaysU.f (c : SaysU fa fn ts fu w K) (i : Nat) {f : FaU} (hf : fu[i]? = some f := by rfl) : f.ok K = true := by
  have e : (fu.all fun f => f.ok K) = true := congrArg (fun z : AlU => z.2) c
  exact List.all_eq_true.mp e f (List.mem_of_getElem? hf)
theorem con_ok (X : K.In h) (G : h.Ns mainGlobals mg) {x : Str} {u : U} (c : (FaU.con x u).ok K = true) : GlobC K mg x u := by
  simp only [FaU.ok] at c
  cases e : PySem.W.nsIn K mainGlobals x with
  | none => rw [e] at c; cases c
  | some r =>
    rw [e] at c
    cases r with
    | none => cases c
    | some v =>
      obtain ⟨y, r1, r2⟩ := repB_ok 12 v u c
      exact ⟨v, y, PySem.W.mg_of X G e, r1, r2⟩
theorem tab_ok (X : K.In h) (G : h.Ns mainGlobals mg) {x : Str} {kvs : List (Str × U)} {es : Array DictEntry} {n : Nat} (c : (FaU.tab x kvs).ok K = true) (g : (He.Fa.glo x).ok K = true) (D : KDict K w (He.ga K x) es n) : KTab K mg w x kvs := by
  refine ⟨He.ga K x, He.glo_ok X G g, fun z u hz => ?_⟩
  have hm : (z, u) ∈ kvs := by
    clear c
    induction kvs with
    | nil => cases hz
    | cons p r ih =>
      rw [List.lookup_cons] at hz
      split at hz
      · rename_i e
        cases hz
        have e2 := beq_iff_eq.mp e
        subst e2
        exact List.mem_cons_self
      · exact List.mem_cons_of_mem _ (ih hz)
  simp only [FaU.ok] at c
  have q := List.all_eq_true.mp c (z, u) hm
  simp only at q
  cases e : PySem.W.nsIn K (He.ga K x) z with
  | none => rw [e] at q; cases q
  | some r =>
    rw [e] at q
    cases r with
    | none => cases q
    | some v =>
      obtain ⟨y, r1, r2⟩ := repB_ok 12 v u q
      exact ⟨y, ⟨es, n, v, D.at_, D.lit, e, r1⟩, r2⟩
end

/-! ### a def by its body, from such facts -/
abbrev FnP (K : PySem.W.Frag) (x : Str) (st : Stmt) (f : Addr) (fd : FuncData) : Prop := FunD K x x (defArgs st) (defBody st) (defScope st) [] [] f fd
theorem defD_ok {P : Program} {w : World} {K : PySem.W.Frag} {mg : Str → Option Value} {base : Heap} {x : Str} {st : Stmt} {f : Addr} {fd : FuncData} {N ps : List Str} {k : Nat} {body : FS} (F : FnP K x st f fd) (S : FnScope N ps (defScope st))
    (hb : ∀ (cdv : Value) (A : Around) (outer : List Env) (s : Shared) (H : Hp) (E : XK), Good (cxOf (L2.CX P w) P w K mg base N x (defScope st) f cdv A outer s H E) (fun cls d _ H => E cls d H) k →
      CSs (cxOf (L2.CX P w) P w K mg base N x (defScope st) f cdv A outer s H E) (fun cls d _ H => E cls d H) (defBody st) body) :
    FnOk P w K mg base (L2.CX P w) (k + 1) f fd ps (spF K mg ps.length (runDef N.length body)) := by
  refine F.ok S (fun vs H Q E h => h.1) (fun cdv A outer s H vs Q E hr h => ?_)
  obtain ⟨hl, ρ, μ, us, r, hm, hq⟩ := h
  have G : Good (cxOf (L2.CX P w) P w K mg base N x (defScope st) f cdv A outer s H E) (fun cls d _ H => E cls d H) k := ⟨rfl, hr, takes_of rfl rfl rfl rfl, passes_of rfl⟩
  refine hb cdv A outer s H E G ρ μ _ _ H _ (RepS.start r) hm ?_
  unfold runDef at hq
  cases e : body (us.map some ++ List.replicate (N.length - us.length) none) μ with
  | nx s' m => rw [e] at hq; exact fun σ' H' ρ' t _ => hq _ H' ρ' t .non
  | rt u m => rw [e] at hq; exact fun v H' ρ' t r => hq v H' ρ' t r
  | bk s' m => rw [e] at hq; exact hq.elim
  | ct s' m => rw [e] at hq; exact hq.elim
  | ex c s' m => rw [e] at hq; exact fun cls σ' H' ρ' t _ eq => hq cls H' ρ' t eq
  | bad => rw [e] at hq; exact hq.elim
/-- the end over a head by facts, what a def lets out told by the world -/
theorem walk_dg {l : PySem.W.OpenLaw} {n k : Nat} {q : Program} {loose : List Str} {XP : (Str → Option Value) → Heap → Prop} {YP : World → Heap → Prop} {d : DefRec} {CX : World → CXT} {x : Str}
    (hn : l.most = some n) (hl : n ≤ sizeLine) (hdf : d.params.defaults = []) (hr : Room k callerA) (hCX : ∀ (w : World) (H : Hp) (s : Shared) (e : Value) (s' : Shared), CX w [] H s (fun _ _ _ => False) e s' → False)
    (F : ∀ (w : World) (mg : Str → Option Value) (fa : Addr) (h : Heap), YP w h → h.Ns mainGlobals mg → mg d.name = some (.ref fa) → ∃ (K : PySem.W.Frag) (fd : FuncData) (sp : Sp), K.In h ∧
      (∀ (s : Shared) (u : Value), BindsTo s fd ⟨[u], []⟩ [(x, u)]) ∧ (∀ (H : Hp) (a : Addr) (ns : List Int), ns.length ≤ n → Only H → SqL K H a (ns.map V.int) → sp [.ref a] H (fun v _ => v = .bl true) fun _ _ _ => False) ∧
      ∀ base : Heap, K.In base → base.Ns mainGlobals mg → FnOk l.prog w K mg base (CX w) k fa fd [x] sp) :
    PySem.W.WalkO q loose XP YP l.row.toRowW d [] (fun f vs => PySem.call f vs) := by
  refine Att.attach_call hn hdf fun w s0 s1 mg mb fa o pm cd doc a vs ns G Y ho hd hcd hmg hob hi hle hg => ?_
  obtain ⟨K, fd, sp, KX, hb, hsp, hF⟩ := F w mg fa _ Y G.T.g hmg
  refine law_call KX G.T.g G.T.b G.T.builtins G.T.nolimit hg hob hi (Nat.le_trans hle hl) hr hF hb ?_ ?_
  · exact fun H hO hS => hsp H a ns hle hO hS
  · exact fun H e s' => hCX w H s1 e s'
theorem cx_none {P : Program} {w : World} (H : Hp) (s : Shared) (e : Value) (s' : Shared) (h : L2.CX P w [] H s (fun _ _ _ => False) e s') : False := by
  obtain ⟨_, _, _, _, _, _, _, _, _, _, _, _, z⟩ := h
  exact z.elim
end Dg
/-! Dg8: reckoning with mirrors: what is wanted behind an expression, a statement. -/
namespace Dg
open PySem PySem.Spec PyProof.Rows L2 RZ

def wpE {α : Type} (r : Res α) (Q : α → Mem → Prop) (E : Str → Mem → Prop) : Prop := match r with
  | .ok a μ => Q a μ
  | .ex c μ => E c μ
  | .bad => False
structure Dn where
  nx : Slots → Mem → Prop
  rt : U → Mem → Prop
  bk : Slots → Mem → Prop
  ct : Slots → Mem → Prop
  ex : Str → Slots → Mem → Prop
def wpS (o : Out) (D : Dn) : Prop := match o with
  | .nx s μ => D.nx s μ
  | .rt u μ => D.rt u μ
  | .bk s μ => D.bk s μ
  | .ct s μ => D.ct s μ
  | .ex c s μ => D.ex c s μ
  | .bad => False
section
variable {α β : Type} {s : Slots} {μ : Mem} {E : Str → Mem → Prop} {D : Dn}
theorem wpE.mono {r : Res α} {Q Q' : α → Mem → Prop} (h : wpE r Q E) (k : ∀ a μ', Q a μ' → Q' a μ') : wpE r Q' E := by
  cases r with
  | ok a m => exact k a m h
  | ex c m => exact h
  | bad => exact h
theorem wpE.get {r : Res α} {Q : α → Mem → Prop} (h : wpE r Q fun _ _ => False) : ∃ a μ', r = .ok a μ' ∧ Q a μ' := by
  cases r with
  | ok a m => exact ⟨a, m, rfl, h⟩
  | ex c m => exact h.elim
  | bad => exact h.elim
theorem wpE.of {r : Res α} {Q : α → Mem → Prop} {a : α} {μ' : Mem} (e : r = .ok a μ') (q : Q a μ') : wpE r Q E := by
  rw [e]; exact q
theorem wpS.mono {o : Out} {D D' : Dn} (h : wpS o D) (n : ∀ s μ, D.nx s μ → D'.nx s μ) (r : ∀ u μ, D.rt u μ → D'.rt u μ) (b : ∀ s μ, D.bk s μ → D'.bk s μ) (c : ∀ s μ, D.ct s μ → D'.ct s μ) (e : ∀ x s μ, D.ex x s μ → D'.ex x s μ) : wpS o D' := by
  cases o with
  | nx s m => exact n s m h
  | rt u m => exact r u m h
  | bk s m => exact b s m h
  | ct s m => exact c s m h
  | ex x s m => exact e x s m h
  | bad => exact h
theorem w_bind {r : Res α} {k : α → Mem → Res β} {Q : β → Mem → Prop} : wpE (r.bind k) Q E = wpE r (fun a μ => wpE (k a μ) Q E) E := by cases r <;> rfl
theorem w_var {i : Nat} {Q : U → Mem → Prop} : wpE (fVar i s μ) Q E = ∃ u, s[i]? = some (some u) ∧ Q u μ := by
  unfold fVar
  split
  · rename_i u e
    apply propext
    exact ⟨fun q => ⟨u, e, q⟩, fun ⟨w, e2, q⟩ => by rw [e] at e2; cases e2; exact q⟩
  · rename_i h
    apply propext
    exact ⟨fun q => q.elim, fun ⟨w, e2, q⟩ => absurd e2 (h w)⟩
theorem w_c {u : U} {Q : U → Mem → Prop} : wpE (fC u s μ) Q E = Q u μ := rfl
theorem w_op {f : U → U → Mem → Res U} {a b : FE} {Q : U → Mem → Prop} : wpE (fOp f a b s μ) Q E = wpE (a s μ) (fun u μ1 => wpE (b s μ1) (fun w μ2 => wpE (f u w μ2) Q E) E) E := by
  unfold fOp; rw [w_bind]; congr 1; funext u μ1; rw [w_bind]
theorem w_res {α : Type} {o : Option α} {Q : α → Mem → Prop} : wpE (opt o μ) Q E = ∃ a, o = some a ∧ Q a μ := by
  cases o with
  | none => apply propext; exact ⟨fun h => h.elim, fun ⟨a, e, _⟩ => nomatch e⟩
  | some a => apply propext; exact ⟨fun h => ⟨a, rfl, h⟩, fun ⟨b, e, h⟩ => by cases e; exact h⟩
theorem w_resB {o : Option Bool} {Q : U → Mem → Prop} : wpE (Dg.resB o μ) Q E = ∃ b, o = some b ∧ Q (.bl b) μ := by
  cases o with
  | none => apply propext; exact ⟨fun h => h.elim, fun ⟨a, e, _⟩ => nomatch e⟩
  | some a => apply propext; exact ⟨fun h => ⟨a, rfl, h⟩, fun ⟨b, e, h⟩ => by cases e; exact h⟩
theorem w_eq {u w : U} {Q : U → Mem → Prop} : wpE (uEq u w μ) Q E = ∃ b, eqU u w μ = some b ∧ Q (.bl b) μ := w_resB
theorem w_ne {u w : U} {Q : U → Mem → Prop} : wpE (uNe u w μ) Q E = ∃ b, eqU u w μ = some b ∧ Q (.bl (!b)) μ := by
  unfold uNe; rw [w_resB]
  apply propext
  constructor
  · rintro ⟨b, e, q⟩
    cases h : eqU u w μ with
    | none => rw [h] at e; cases e
    | some c => rw [h] at e; cases e; exact ⟨c, rfl, q⟩
  · rintro ⟨b, e, q⟩
    exact ⟨!b, by rw [e]; rfl, q⟩
theorem w_in {u w : U} {Q : U → Mem → Prop} : wpE (uIn u w μ) Q E = ∃ b, inU u w μ = some b ∧ Q (.bl b) μ := w_resB
theorem w_nin {u w : U} {Q : U → Mem → Prop} : wpE (uNin u w μ) Q E = ∃ b, inU u w μ = some b ∧ Q (.bl (!b)) μ := by
  unfold uNin; rw [w_resB]
  apply propext
  constructor
  · rintro ⟨b, e, q⟩
    cases h : inU u w μ with
    | none => rw [h] at e; cases e
    | some c => rw [h] at e; cases e; exact ⟨c, rfl, q⟩
  · rintro ⟨b, e, q⟩
    exact ⟨!b, by rw [e]; rfl, q⟩
theorem eq_str {a b : Str} : eqU (.str a) (.str b) μ = some (decide (a = b)) := by
  have : eqU (.str a) (.str b) μ = some (PyData.eqv (.str a) (.str b)) := rfl
  rw [this]
  congr 1
theorem eq_int {a b : Int} : eqU (.int a) (.int b) μ = some (decide (a = b)) := by
  have : eqU (.int a) (.int b) μ = some (PyData.eqv (.int a) (.int b)) := rfl
  rw [this]
  congr 1
theorem w_addI {i j : Int} {Q : U → Mem → Prop} : wpE (uAdd (.int i) (.int j) μ) Q E = Q (.int (i + j)) μ := rfl
theorem w_subI {i j : Int} {Q : U → Mem → Prop} : wpE (uSub (.int i) (.int j) μ) Q E = Q (.int (i - j)) μ := rfl
theorem w_mulI {i j : Int} {Q : U → Mem → Prop} : wpE (uMul (.int i) (.int j) μ) Q E = ((big64 i || big64 j) = true ∧ Q (.int (i * j)) μ) := by
  show wpE (if (big64 i || big64 j) = true then _ else _) Q E = _
  split
  · rename_i h; simp [h, wpE]
  · rename_i h; simp [h, wpE]
theorem w_modI {i j : Int} {Q : U → Mem → Prop} : wpE (uMod (.int i) (.int j) μ) Q E = (j ≠ 0 ∧ Q (.int (i.fmod j)) μ) := by
  show wpE (if j ≠ 0 then _ else _) Q E = _
  split
  · rename_i h; simp [h, wpE]
  · rename_i h; simp [h, wpE]
theorem w_fdivI {i j : Int} {Q : U → Mem → Prop} : wpE (uFdiv (.int i) (.int j) μ) Q E = ((j ≠ 0 ∧ j.natAbs < 1073741824) ∧ Q (.int (i.fdiv j)) μ) := by
  show wpE (if j ≠ 0 ∧ j.natAbs < 1073741824 then _ else _) Q E = _
  split
  · rename_i h; simp [h, wpE]
  · rename_i h; simp only [h, wpE]; simp
theorem w_ltI {i j : Int} {Q : U → Mem → Prop} : wpE (uLt (.int i) (.int j) μ) Q E = Q (.bl (decide (i < j))) μ := rfl
theorem w_leI {i j : Int} {Q : U → Mem → Prop} : wpE (uLe (.int i) (.int j) μ) Q E = Q (.bl (decide (i ≤ j))) μ := rfl
theorem w_gtI {i j : Int} {Q : U → Mem → Prop} : wpE (uGt (.int i) (.int j) μ) Q E = Q (.bl (decide (j < i))) μ := rfl
theorem w_geI {i j : Int} {Q : U → Mem → Prop} : wpE (uGe (.int i) (.int j) μ) Q E = Q (.bl (decide (j ≤ i))) μ := rfl
/-! items -/
theorem w_ixT {us : List U} {i : Int} {Q : U → Mem → Prop} : wpE (ixU (.tup us) (.int i) μ) Q E = ∃ a, atI us i = some a ∧ Q a μ := w_res
theorem ix_L {r : Nat} {us : List U} {i : Int} (h : μ[r]? = some (.lst us)) : ixU (.ref r) (.int i) μ = opt (atI us i) μ := by
  unfold ixU dctU seqU
  simp only [h]
theorem w_ixL {r : Nat} {us : List U} {i : Int} {Q : U → Mem → Prop} (h : μ[r]? = some (.lst us)) : wpE (ixU (.ref r) (.int i) μ) Q E = ∃ a, atI us i = some a ∧ Q a μ := by rw [ix_L h, w_res]
theorem w_ixD {r : Nat} {kvs : List (Key × U)} {x : Str} {Q : U → Mem → Prop} (h : μ[r]? = some (.dct kvs)) : wpE (ixU (.ref r) (.str x) μ) Q E = ∃ a, valU kvs (.inr x) = some a ∧ Q a μ := by
  have : ixU (.ref r) (.str x) μ = opt (valU kvs (.inr x)) μ := by
    unfold ixU dctU
    simp only [h, keyU]
  rw [this, w_res]
/-! calls -/
theorem w_call {g : List U → Mem → Res U} {a : FA} {Q : U → Mem → Prop} : wpE (fCall g a s μ) Q E = wpE (a s μ) (fun us μ1 => wpE (g us μ1) Q E) E := w_bind
theorem w_def {n : Nat} {g : List U → Mem → Res U} {a : FA} {Q : U → Mem → Prop} : wpE (fDef n g a s μ) Q E = wpE (a s μ) (fun us μ1 => us.length = n ∧ wpE (g us μ1) Q E) E := by
  unfold fDef; rw [w_bind]; congr 1; funext us μ1
  split
  · rename_i h; simp [h]
  · rename_i h; simp [h, wpE]
theorem w_anil {Q : List U → Mem → Prop} : wpE (aNil s μ) Q E = Q [] μ := rfl
theorem w_acons {a : FE} {r : FA} {Q : List U → Mem → Prop} : wpE (aCons a r s μ) Q E = wpE (a s μ) (fun u μ1 => wpE (r s μ1) (fun us μ2 => Q (u :: us) μ2) E) E := by
  unfold aCons; rw [w_bind]; congr 1; funext u μ1; rw [w_bind]; rfl
theorem w_tup {a : FA} {Q : U → Mem → Prop} : wpE (fTup a s μ) Q E = wpE (a s μ) (fun us μ1 => us.length ≤ lim ∧ Q (.tup us) μ1) E := by
  unfold fTup; rw [w_bind]; congr 1; funext us μ1
  split
  · rename_i h; simp [h, wpE]
  · rename_i h; simp [h, wpE]
theorem w_lst {a : FA} {Q : U → Mem → Prop} : wpE (fLst a s μ) Q E = wpE (a s μ) (fun us μ1 => us.length ≤ lim ∧ Q (.ref μ1.length) (μ1 ++ [.lst us])) E := by
  unfold fLst; rw [w_bind]; congr 1; funext us μ1
  split
  · rename_i h; simp [h, wpE]
  · rename_i h; simp [h, wpE]
theorem w_int {i : Int} {Q : U → Mem → Prop} : wpE (bInt [.int i] μ) Q E = Q (.int i) μ := rfl
theorem w_intB {b : Bool} {Q : U → Mem → Prop} : wpE (bInt [.bl b] μ) Q E = Q (.int (if b then 1 else 0)) μ := rfl
theorem w_lenT {us : List U} {Q : U → Mem → Prop} : wpE (bLen [.tup us] μ) Q E = Q (.int us.length) μ := rfl
theorem w_lenL {r : Nat} {us : List U} {Q : U → Mem → Prop} (h : μ[r]? = some (.lst us)) : wpE (bLen [.ref r] μ) Q E = Q (.int us.length) μ := by
  have : bLen [.ref r] μ = .ok (.int us.length) μ := by unfold bLen lenU; simp only [h]
  rw [this]; rfl
theorem w_tupleL {r : Nat} {us : List U} {Q : U → Mem → Prop} (h : μ[r]? = some (.lst us)) : wpE (bTuple [.ref r] μ) Q E = Q (.tup us) μ := by
  have : bTuple [.ref r] μ = .ok (.tup us) μ := by unfold bTuple seqU; simp only [h]
  rw [this]; rfl
theorem w_dictD {r : Nat} {kvs : List (Key × U)} {Q : U → Mem → Prop} (h : μ[r]? = some (.dct kvs)) : wpE (bDict [.ref r] μ) Q E = Q (.ref μ.length) (μ ++ [.dct kvs]) := by
  have : bDict [.ref r] μ = .ok (.ref μ.length) (μ ++ [.dct kvs]) := by unfold bDict dctU; simp only [h]
  rw [this]; rfl
theorem w_d0 {Q : U → Mem → Prop} : wpE (fD0 s μ) Q E = Q (.ref μ.length) (μ ++ [.dct []]) := rfl
theorem w_app {o : FE} {a : FA} {Q : U → Mem → Prop} {g : U → List U → Mem → Res U} : wpE (fMtL g o a s μ) Q E = wpE (o s μ) (fun u μ1 => ∃ us, lstU μ1 u = some us ∧ wpE (a s μ1) (fun us μ2 => wpE (g u us μ2) Q E) E) E := by
  unfold fMtL; rw [w_bind]; congr 1; funext u μ1
  cases e : lstU μ1 u with
  | none => simp [wpE]
  | some us => simp only [w_bind]; simp
theorem lstU_L {r : Nat} {us : List U} (h : μ[r]? = some (.lst us)) : lstU μ (.ref r) = some us := by unfold lstU; simp only [h]
theorem w_append {r : Nat} {us : List U} {w : U} {Q : U → Mem → Prop} (h : μ[r]? = some (.lst us)) (hl : us.length < lim) : wpE (gAppend (.ref r) [w] μ) Q E = Q .non (μ.set r (.lst (us ++ [w]))) := by
  have : gAppend (.ref r) [w] μ = .ok .non (μ.set r (.lst (us ++ [w]))) := by unfold gAppend; simp only [h, hl, if_true]
  rw [this]; rfl
theorem w_pop {r : Nat} {us : List U} {w : U} {Q : U → Mem → Prop} (h : μ[r]? = some (.lst (us ++ [w]))) : wpE (gPop (.ref r) [] μ) Q E = Q w (μ.set r (.lst us)) := by
  have : gPop (.ref r) [] μ = .ok w (μ.set r (.lst us)) := by
    unfold gPop
    simp only [h]
    simp
  rw [this]; rfl
theorem w_extT {r : Nat} {us ws : List U} {Q : U → Mem → Prop} (h : μ[r]? = some (.lst us)) (hl : us.length + ws.length ≤ lim) : wpE (gExt (.ref r) [.tup ws] μ) Q E = Q .non (μ.set r (.lst (us ++ ws))) := by
  have : gExt (.ref r) [.tup ws] μ = .ok .non (μ.set r (.lst (us ++ ws))) := by unfold gExt seqU; simp only [h, hl, if_true]
  rw [this]; rfl
/-! tests -/
theorem w_tstB {a : FE} {Q : Bool → Mem → Prop} : wpE (tstB a s μ) Q E = wpE (a s μ) (fun u μ1 => ∃ b, u = .bl b ∧ Q b μ1) E := by
  unfold tstB; rw [w_bind]; congr 1; funext u μ1
  cases u <;> simp [wpE]
theorem w_tst {a : FE} {Q : Bool → Mem → Prop} : wpE (tst a s μ) Q E = wpE (a s μ) (fun u μ1 => ∃ b, truU μ1 u = some b ∧ Q b μ1) E := by
  unfold tst; rw [w_bind]; congr 1; funext u μ1
  cases truU μ1 u <;> simp [wpE]
theorem w_nt {t : FT} {Q : Bool → Mem → Prop} : wpE (tNt t s μ) Q E = wpE (t s μ) (fun b μ1 => Q (!b) μ1) E := w_bind
theorem w_an {t u : FT} {Q : Bool → Mem → Prop} : wpE (tAn t u s μ) Q E = wpE (t s μ) (fun b μ1 => if b = true then wpE (u s μ1) Q E else Q false μ1) E := by
  unfold tAn; rw [w_bind]; congr 1; funext b μ1; cases b <;> simp [wpE]
theorem w_or {t u : FT} {Q : Bool → Mem → Prop} : wpE (tOr' t u s μ) Q E = wpE (t s μ) (fun b μ1 => if b = true then Q true μ1 else wpE (u s μ1) Q E) E := by
  unfold tOr'; rw [w_bind]; congr 1; funext b μ1; cases b <;> simp [wpE]
theorem w_all {Q : Bool → Mem → Prop} : wpE (tAll s μ) Q E = Q true μ := rfl
theorem w_if {t : FT} {a b : FE} {Q : U → Mem → Prop} : wpE (fIf t a b s μ) Q E = wpE (t s μ) (fun c μ1 => if c = true then wpE (a s μ1) Q E else wpE (b s μ1) Q E) E := by
  unfold fIf; rw [w_bind]; congr 1; funext b μ1; cases b <;> simp
/-! statements -/
theorem w_ofR {r : Res α} {k : α → Mem → Out} : wpS (ofR r s k) D = wpE r (fun a μ => wpS (k a μ) D) (fun c μ => D.ex c s μ) := by cases r <;> rfl
theorem s_seq {a b : FS} : wpS (sSeq a b s μ) D = wpS (a s μ) { D with nx := fun s1 μ1 => wpS (b s1 μ1) D } := by
  unfold sSeq
  cases a s μ <;> rfl
theorem s_next : wpS (sNext s μ) D = D.nx s μ := rfl
theorem s_brk : wpS (sBrk s μ) D = D.bk s μ := rfl
theorem s_cnt : wpS (sCnt s μ) D = D.ct s μ := rfl
theorem s_expr {a : FE} : wpS (sExpr a s μ) D = wpE (a s μ) (fun _ μ1 => D.nx s μ1) (fun c μ => D.ex c s μ) := w_ofR
theorem s_ret {a : FE} : wpS (sRet a s μ) D = wpE (a s μ) (fun u μ1 => D.rt u μ1) (fun c μ => D.ex c s μ) := w_ofR
theorem s_retN : wpS (sRetN s μ) D = D.rt .non μ := rfl
theorem s_if {t : FT} {a b : FS} : wpS (sIf t a b s μ) D = wpE (t s μ) (fun c μ1 => if c = true then wpS (a s μ1) D else wpS (b s μ1) D) (fun c μ => D.ex c s μ) := by
  unfold sIf; rw [w_ofR]; congr 1; funext c μ1; cases c <;> simp
theorem s_asg {g : Tgt} {a : FE} : wpS (sAsg g a s μ) D = wpE (a s μ) (fun u μ1 => ∃ s1, setT g u s = some s1 ∧ D.nx s1 μ1) (fun c μ => D.ex c s μ) := by
  unfold sAsg; rw [w_ofR]; congr 1; funext u μ1
  cases setT g u s <;> simp [wpS]
theorem s_asg1 {i : Nat} {a : FE} : wpS (sAsg (.one i) a s μ) D = wpE (a s μ) (fun u μ1 => D.nx (s.set i (some u)) μ1) (fun c μ => D.ex c s μ) := by
  rw [s_asg]; congr 1; funext u μ1; simp [setT]
theorem s_store {o i a : FE} : wpS (sStore o i a s μ) D = wpE (a s μ) (fun u μ1 => wpE (o s μ1) (fun x μ2 => wpE (i s μ2) (fun y μ3 => ∃ μ4, stU x y u μ3 = some μ4 ∧ D.nx s μ4) (fun c μ => D.ex c s μ)) (fun c μ => D.ex c s μ)) (fun c μ => D.ex c s μ) := by
  unfold sStore; rw [w_ofR]; congr 1; funext u μ1; rw [w_ofR]; congr 1; funext x μ2; rw [w_ofR]; congr 1; funext y μ3
  cases stU x y u μ3 <;> simp [wpS]
theorem stU_D {r : Nat} {kvs : List (Key × U)} {x : Str} {u : U} (h : μ[r]? = some (.dct kvs)) (hl : kvs.length < lim) : stU (.ref r) (.str x) u μ = some (μ.set r (.dct (putU kvs (.inr x) u))) := by
  unfold stU; simp only [h, keyU, hl, if_true]
theorem stU_L {r j : Nat} {us : List U} {i : Int} {u : U} (h : μ[r]? = some (.lst us)) (hj : ixN us.length i = some j) : stU (.ref r) (.int i) u μ = some (μ.set r (.lst (us.set j u))) := by
  unfold stU; simp only [h, hj]
/-- a def's run -/
theorem w_run {n : Nat} {body : FS} {us : List U} {Q : U → Mem → Prop} : wpE (runDef n body us μ) Q E = wpS (body (us.map some ++ List.replicate (n - us.length) none) μ) ⟨fun _ μ' => Q .non μ', Q, fun _ _ => False, fun _ _ => False, fun c _ μ' => E c μ'⟩ := by
  unfold runDef
  cases body (us.map some ++ List.replicate (n - us.length) none) μ <;> rfl

/-! ### loops -/
theorem w_for {it : FI} {g : Tgt} {b : FS} : wpS (sFor it g b s μ) D = wpE (it s μ) (fun j μ1 => wpS (sForGo g b fuelF j 0 s μ1) D) (fun c μ => D.ex c s μ) := w_ofR
/-- a for by what holds at each turn -/
theorem for_by {j : IterU} {g : Tgt} {b : FS} (I : Nat → Slots → Mem → Prop) (n : Nat) (hb : ∀ i s μ, I i s μ → i ≤ n)
    (step : ∀ i s μ, I i s μ → (itemAt j i μ = some none ∧ D.nx s μ) ∨ ∃ u s1, itemAt j i μ = some (some u) ∧ setT g u s = some s1 ∧ wpS (b s1 μ) ⟨I (i + 1), D.rt, D.nx, I (i + 1), D.ex⟩) :
    ∀ (f i : Nat) (s : Slots) (μ : Mem), n < f + i → I i s μ → wpS (sForGo g b f j i s μ) D
  | 0, i, s, μ, hf, h => by
    have := hb i s μ h
    omega
  | f + 1, i, s, μ, hf, h => by
    rcases step i s μ h with ⟨e, q⟩ | ⟨u, s1, e, e2, q⟩
    · simp only [sForGo, e]; exact q
    · simp only [sForGo, e, e2]
      cases eb : b s1 μ with
      | nx s2 μ2 => rw [eb] at q; exact for_by I n hb step f (i + 1) s2 μ2 (by omega) q
      | ct s2 μ2 => rw [eb] at q; exact for_by I n hb step f (i + 1) s2 μ2 (by omega) q
      | bk s2 μ2 => rw [eb] at q; exact q
      | rt u m2 => rw [eb] at q; exact q
      | ex c2 u m2 => rw [eb] at q; exact q
      | bad => rw [eb] at q; exact q
theorem for_go {j : IterU} {g : Tgt} {b : FS} (I : Nat → Slots → Mem → Prop) (n : Nat) (hn : n < 1000000) (h0 : I 0 s μ) (hb : ∀ i s μ, I i s μ → i ≤ n)
    (step : ∀ i s μ, I i s μ → (itemAt j i μ = some none ∧ D.nx s μ) ∨ ∃ u s1, itemAt j i μ = some (some u) ∧ setT g u s = some s1 ∧ wpS (b s1 μ) ⟨I (i + 1), D.rt, D.nx, I (i + 1), D.ex⟩) : wpS (sForGo g b fuelF j 0 s μ) D :=
  for_by I n hb step fuelF 0 s μ (by unfold fuelF; omega) h0
/-- a while by a measure -/
theorem while_by' {t : FT} {b : FS} (I : Nat → Slots → Mem → Prop)
    (step : ∀ m s μ, I m s μ → wpE (t s μ) (fun c μ1 => if c = true then ∃ m', m = m' + 1 ∧ wpS (b s μ1) ⟨I m', D.rt, D.nx, I m', D.ex⟩ else D.nx s μ1) (fun c μ => D.ex c s μ)) :
    ∀ (f m : Nat) (s : Slots) (μ : Mem), m < f → I m s μ → wpS (sWhile t b f s μ) D
  | 0, m, s, μ, hf, h => by omega
  | f + 1, m, s, μ, hf, h => by
    have q := step m s μ h
    simp only [sWhile, w_ofR]
    refine wpE.mono q fun c μ1 hc => ?_
    cases c with
    | false => simpa [wpS] using hc
    | true =>
      simp only [if_true] at hc
      obtain ⟨m', rfl, q2⟩ := hc
      cases eb : b s μ1 with
      | nx s2 μ2 => rw [eb] at q2; exact while_by' I step f m' s2 μ2 (by omega) q2
      | ct s2 μ2 => rw [eb] at q2; exact while_by' I step f m' s2 μ2 (by omega) q2
      | bk s2 μ2 => rw [eb] at q2; exact q2
      | rt u m2 => rw [eb] at q2; exact q2
      | ex c2 u m2 => rw [eb] at q2; exact q2
      | bad => rw [eb] at q2; exact q2
theorem while_go {t : FT} {b : FS} (I : Nat → Slots → Mem → Prop) {m : Nat} (hm : m < 1000000) (h0 : I m s μ)
    (step : ∀ m s μ, I m s μ → wpE (t s μ) (fun c μ1 => if c = true then ∃ m', m = m' + 1 ∧ wpS (b s μ1) ⟨I m', D.rt, D.nx, I m', D.ex⟩ else D.nx s μ1) (fun c μ => D.ex c s μ)) : wpS (sWhile t b fuelF s μ) D :=
  while_by' I step fuelF m s μ (by unfold fuelF; omega) h0
/-- a comprehension by what holds at each turn -/
theorem w_lc {it : FI} {own : List Nat} {g : Tgt} {t : FT} {e : FE} {Q : U → Mem → Prop} : wpE (fLc it own g t e s μ) Q E = wpE (it s μ) (fun j μ1 => wpE (lcGo j own g t e s μ1.length fuelF 0 (μ1 ++ [.lst []])) Q E) E := w_bind
theorem lc_by {j : IterU} {own : List Nat} {g : Tgt} {t : FT} {e : FE} {d : Nat} {Q : U → Mem → Prop} (I : Nat → Mem → Prop) (n : Nat) (hb : ∀ i μ, I i μ → i ≤ n)
    (step : ∀ i μ, I i μ → (itemAt j i μ = some none ∧ Q (.ref d) μ) ∨ ∃ u s1, itemAt j i μ = some (some u) ∧ setT g u (wipeU s own) = some s1 ∧
      wpE (t s1 μ) (fun b μ3 => if b = true then wpE (e s1 μ3) (fun v μ4 => ∃ acc, μ4[d]? = some (.lst acc) ∧ acc.length < lim ∧ I (i + 1) (μ4.set d (.lst (acc ++ [v])))) (fun _ _ => False) else I (i + 1) μ3) (fun _ _ => False)) :
    ∀ (f i : Nat) (μ : Mem), n < f + i → I i μ → wpE (lcGo j own g t e s d f i μ) Q E
  | 0, i, μ, hf, h => by
    have := hb i μ h
    omega
  | f + 1, i, μ, hf, h => by
    rcases step i μ h with ⟨e0, q⟩ | ⟨u, s1, e0, e2, q⟩
    · simp only [lcGo, e0]; exact q
    · simp only [lcGo, e0, e2]
      cases et : t s1 μ with
      | ex c m => rw [et] at q; exact q.elim
      | bad => rw [et] at q; exact q.elim
      | ok b μ3 =>
        rw [et] at q
        cases b with
        | false => exact lc_by I n hb step f (i + 1) μ3 (by omega) q
        | true =>
          have q' : wpE (e s1 μ3) (fun v μ4 => ∃ acc, μ4[d]? = some (.lst acc) ∧ acc.length < lim ∧ I (i + 1) (μ4.set d (.lst (acc ++ [v])))) (fun _ _ => False) := q
          cases ee : e s1 μ3 with
          | ex c m => rw [ee] at q'; exact q'.elim
          | bad => rw [ee] at q'; exact q'.elim
          | ok v μ4 =>
            rw [ee] at q'
            obtain ⟨acc, a1, a2, a3⟩ := q'
            simp only [ee, a1, a2, if_true]
            exact lc_by I n hb step f (i + 1) _ (by omega) a3
theorem lc_go {j : IterU} {own : List Nat} {g : Tgt} {t : FT} {e : FE} {d : Nat} {Q : U → Mem → Prop} (I : Nat → Mem → Prop) (n : Nat) (hn : n < 1000000) (h0 : I 0 μ) (hb : ∀ i μ, I i μ → i ≤ n)
    (step : ∀ i μ, I i μ → (itemAt j i μ = some none ∧ Q (.ref d) μ) ∨ ∃ u s1, itemAt j i μ = some (some u) ∧ setT g u (wipeU s own) = some s1 ∧
      wpE (t s1 μ) (fun b μ3 => if b = true then wpE (e s1 μ3) (fun v μ4 => ∃ acc, μ4[d]? = some (.lst acc) ∧ acc.length < lim ∧ I (i + 1) (μ4.set d (.lst (acc ++ [v])))) (fun _ _ => False) else I (i + 1) μ3) (fun _ _ => False)) :
    wpE (lcGo j own g t e s d fuelF 0 μ) Q E := lc_by I n hb step fuelF 0 μ (by unfold fuelF; omega) h0
/-! what is walked -/
theorem w_iseqT {a : FE} {Q : IterU → Mem → Prop} : wpE (iSeq a s μ) Q E = wpE (a s μ) (fun u μ1 => match u with
  | .tup us => Q (.seq us) μ1
  | .frl us => Q (.seq us) μ1
  | .str z => Q (.seq (signsU z)) μ1
  | .ref r => ∃ us, listAt μ1 r = some us ∧ Q (.live r) μ1
  | _ => False) E := by
  unfold iSeq; rw [w_bind]; congr 1; funext u μ1
  cases u with
  | ref r =>
    simp only
    cases listAt μ1 r <;> simp [wpE]
  | _ => rfl
theorem w_rg1 {a : FE} {Q : IterU → Mem → Prop} : wpE (iRg1 a s μ) Q E = wpE (a s μ) (fun u μ1 => ∃ n, u = .int n ∧ okR n = true ∧ Q (.rng 0 1 n.toNat) μ1) E := by
  unfold iRg1; rw [w_bind]; congr 1; funext u μ1
  cases u with
  | int n =>
    simp only
    split
    · rename_i h; simp [h, wpE]
    · rename_i h; simp [h, wpE]
  | _ => simp [wpE]
theorem w_rev1 {a : FE} {Q : IterU → Mem → Prop} : wpE (iRev1 a s μ) Q E = wpE (a s μ) (fun u μ1 => ∃ n, u = .int n ∧ okR n = true ∧ Q (.rng (n.toNat - 1) (-1) n.toNat) μ1) E := by
  unfold iRev1; rw [w_bind]; congr 1; funext u μ1
  cases u with
  | int n =>
    simp only
    split
    · rename_i h; simp [h, wpE]
    · rename_i h; simp [h, wpE]
  | _ => simp [wpE]
theorem listAt_L {r : Nat} {us : List U} (h : μ[r]? = some (.lst us)) : listAt μ r = some us := by unfold listAt; simp only [h]
theorem item_live {r i : Nat} {us : List U} (h : μ[r]? = some (.lst us)) : itemAt (.live r) i μ = some us[i]? := by
  simp only [itemAt, listAt_L h]; rfl
theorem item_rng {lo c : Int} {n i : Nat} : itemAt (.rng lo c n) i μ = some (if i < n then some (.int (lo + (i : Int) * c)) else none) := rfl
theorem item_seq {us : List U} {i : Nat} : itemAt (.seq us) i μ = some us[i]? := rfl
end
/-! ### places -/
theorem atI_nat {α : Type} {xs : List α} (n : Nat) : atI xs (n : Int) = xs[n]? := by
  unfold L2.atI L2.ixN
  rw [if_pos (by omega)]
  by_cases h : n < xs.length
  · rw [if_pos (by omega)]
    simp
  · rw [if_neg (by omega)]
    simp
    omega
theorem atI_0 {α : Type} {x : α} {xs : List α} : atI (x :: xs) 0 = some x := atI_nat (xs := x :: xs) 0
theorem atI_1 {α : Type} {x y : α} {xs : List α} : atI (x :: y :: xs) 1 = some y := atI_nat (xs := x :: y :: xs) 1
theorem atI_2 {α : Type} {x y z : α} {xs : List α} : atI (x :: y :: z :: xs) 2 = some z := atI_nat (xs := x :: y :: z :: xs) 2
theorem atI_3 {α : Type} {x y z a : α} {xs : List α} : atI (x :: y :: z :: a :: xs) 3 = some a := atI_nat (xs := x :: y :: z :: a :: xs) 3
theorem atI_4 {α : Type} {x y z a b : α} {xs : List α} : atI (x :: y :: z :: a :: b :: xs) 4 = some b := atI_nat (xs := x :: y :: z :: a :: b :: xs) 4
theorem atI_5 {α : Type} {x y z a b c : α} {xs : List α} : atI (x :: y :: z :: a :: b :: c :: xs) 5 = some c := atI_nat (xs := x :: y :: z :: a :: b :: c :: xs) 5
theorem atI_in {α : Type} {xs : List α} {i : Int} (h0 : 0 ≤ i) (h1 : i < xs.length) : ∃ a, atI xs i = some a ∧ a ∈ xs := by
  obtain ⟨j, rfl⟩ := Int.eq_ofNat_of_zero_le h0
  have hl : j < xs.length := by omega
  exact ⟨xs[j], (atI_nat j).trans (List.getElem?_eq_getElem hl), List.getElem_mem _⟩
theorem fmod_in {x m : Int} (h : 0 < m) : 0 ≤ x.fmod m ∧ x.fmod m < m := by
  rw [Int.fmod_eq_emod_of_nonneg _ (by omega)]
  exact ⟨Int.emod_nonneg _ (by omega), Int.emod_lt_of_pos _ h⟩
/-! ### memories that grow -/
/-- all but the cell s stays -/
structure Gr (s : Nat) (μ μ' : Mem) : Prop where
  le : μ.length ≤ μ'.length
  at_ : ∀ i, i < μ.length → i ≠ s → μ'[i]? = μ[i]?
theorem Gr.refl {s : Nat} {μ : Mem} : Gr s μ μ := ⟨Nat.le_refl _, fun _ _ _ => rfl⟩
theorem Gr.trans {s : Nat} {a b c : Mem} (h : Gr s a b) (g : Gr s b c) : Gr s a c := ⟨Nat.le_trans h.le g.le, fun i hi hs => (g.at_ i (Nat.lt_of_lt_of_le hi h.le) hs).trans (h.at_ i hi hs)⟩
theorem Gr.get {s i : Nat} {μ μ' : Mem} {c : Cell} (g : Gr s μ μ') (h : μ[i]? = some c) (hs : i ≠ s) : μ'[i]? = some c := (g.at_ i (List.getElem?_eq_some_iff.mp h).1 hs).trans h
theorem Gr.snoc {s : Nat} {μ : Mem} {c : Cell} : Gr s μ (μ ++ [c]) := ⟨by simp, fun i hi _ => List.getElem?_append_left hi⟩
theorem Gr.set {s : Nat} {μ : Mem} {c : Cell} : Gr s μ (μ.set s c) := ⟨by simp, fun i _ hs => List.getElem?_set_ne (Ne.symm hs)⟩
/-- a cell of the new part changes -/
theorem Gr.put {s i : Nat} {μ μ' : Mem} {c : Cell} (g : Gr s μ μ') (h : μ.length ≤ i) : Gr s μ (μ'.set i c) := ⟨by simpa using g.le, fun j hj hs => by
  rw [List.getElem?_set_ne (by omega)]; exact g.at_ j hj hs⟩
theorem get_snoc {μ : Mem} {c : Cell} : (μ ++ [c])[μ.length]? = some c := by simp
theorem get_set {μ : Mem} {i : Nat} {c d : Cell} (h : μ[i]? = some d) : (μ.set i c)[i]? = some c := List.getElem?_set_self (List.getElem?_eq_some_iff.mp h).1
theorem get_set_ne {μ : Mem} {i j : Nat} {c d : Cell} (h : μ[j]? = some d) (ne : i ≠ j) : (μ.set i c)[j]? = some d := (List.getElem?_set_ne ne).trans h
theorem get_snoc_lt {μ : Mem} {i : Nat} {c d : Cell} (h : μ[i]? = some d) : (μ ++ [c])[i]? = some d := (List.getElem?_append_left (List.getElem?_eq_some_iff.mp h).1).trans h
theorem get_lt {μ : Mem} {i : Nat} {d : Cell} (h : μ[i]? = some d) : i < μ.length := (List.getElem?_eq_some_iff.mp h).1
end Dg
/-! Dg9: raise of an own exception, texts with places, try with one clause without a name. -/
namespace Dg
open PySem PySem.Spec PyProof.Rows L2 RZ
section
variable {X : Cx} {W : WX} {k : Nat}
/-! ### raise C(e) -/
def sRaise (c : Str) (m : FE) : FS := fun s μ => ofR (m s μ) s fun _ μ1 => .ex c s μ1
theorem cs_raise {C : Addr} {bmB : List Value} {B newId initId : String} {x : Str} {e : Expr} {me : FE} {p pos pos' : Pos} (G : Good X W k) (F : ExcBaseFacts B newId initId bmB) (q : PySem.W.excIn X.K C bmB newId = true) (gC : X.mg x = some (.ref C))
    (kC : PySem.W.keepIn X.K (.ref C) = true) (r : Raises X (.ref C)) (hg : Gl X x) (he : CE X W e me) (hst : starEach [e] X.env = (false, eval e X.env) :: starEach [] X.env := by rfl) (hdb : (x == ("__debug__" : Str)) = false := by decide) :
    CS X W (.Raise (some (.Call (.Name x p) [e] [] pos)) none pos') (sRaise x me) := by
  intro ρ μ s σ H D hs hm h
  refine ⟨_, ps_raise G.calm G.tk (SkE.pmk_own1 F q gC kC r hg pe_w hst hdb), ?_⟩
  exact he ρ μ s σ H _ hs hm (PostS.bind hs h fun u μ1 x1 H1 ρ1 t1 r1 h1 => h1 (.ref C) σ H1 ρ1 (Stp.refl t1.mem) (t1.s hs) gC)
/-! ### f'..{e}..' -/
def fFmt (a : FE) : FE := fun s μ => (a s μ).bind fun u μ1 => match u with
  | .str y => if y.length ≤ lim then .ok (.str y) μ1 else .bad
  | .int i => if i.natAbs.log2 < 1920 ∧ PyData.strOk (toString i : Str) = true then .ok (.str (toString i)) μ1 else .bad
  | _ => .bad
theorem ce_fmt {e : Expr} {me : FE} {pos : Pos} (he : CE X W e me) : CE X W (.FormattedValue e (-1) none pos) (fFmt me) := by
  intro ρ μ s σ H Q hs hm h
  refine ⟨_, pe_fmt pe_w, ?_⟩
  refine he ρ μ s σ H _ hs hm (h.bind fun u μ1 x H1 ρ1 t1 r1 h1 => ?_)
  cases u with
  | str y =>
    cases r1 with
    | str ok =>
      simp only at h1
      split at h1
      · rename_i hl
        exact .inl ⟨y, rfl, lim_le hl, h1.ok (Stp.refl t1.mem) (.str ok)⟩
      · exact h1.elim
  | int i =>
    cases r1
    simp only at h1
    split at h1
    · rename_i hl
      exact .inr ⟨i, rfl, hl.1, h1.ok (Stp.refl t1.mem) (.str hl.2)⟩
    · exact h1.elim
  | _ => exact h1.elim
def fJs : List FE → Str → FE
  | [], acc => fun _ μ => .ok (.str acc) μ
  | p :: ps, acc => fun s μ => (p s μ).bind fun u μ1 => match u with
    | .str y => if (acc ++ y).length ≤ lim then fJs ps (acc ++ y) s μ1 else .bad
    | _ => .bad
inductive CJ (X : Cx) (W : WX) : List Expr → List FE → Prop
  | nil : CJ X W [] []
  | cons {e : Expr} {m : FE} {es : List Expr} {ms : List FE} (h : CE X W e m) (r : CJ X W es ms) : CJ X W (e :: es) (m :: ms)
theorem pj_all : ∀ es : List Expr, PJ X es (es.map (WE X))
  | [] => .nil
  | _ :: es => .cons pe_w (pj_all es)
theorem tjs_of {es : List Expr} {ms : List FE} (h : CJ X W es ms) : ∀ (acc : Str) (ρ : List Addr) (μ : Mem) (s : Slots) (σ : L2.St) (H : Hp) (Q : Str → Hp → Prop), PyData.strOk acc = true → RepS X.K H ρ s σ → RepM X.K H ρ μ →
    Post X W σ relV ρ H (fJs ms acc s μ) (fun v H1 => ∃ y, v = .str y ∧ Q y H1) → tJs (es.map (WE X)) acc σ H Q := by
  induction h with
  | nil =>
    intro acc ρ μ s σ H Q ok hs hm h
    obtain ⟨y, e, q⟩ := h.ok (Stp.refl hm) (.str ok)
    cases e
    exact q
  | @cons e m es ms he r ih =>
    intro acc ρ μ s σ H Q ok hs hm h
    refine he ρ μ s σ H _ hs hm (h.bind fun u μ1 x H1 ρ1 t1 r1 h1 => ?_)
    cases u with
    | str y =>
      cases r1 with
      | str oy =>
        simp only at h1
        split at h1
        · rename_i hl
          exact ⟨y, rfl, lim_le hl, ih (acc ++ y) ρ1 μ1 s σ H1 Q (strOk_append ok oy) (t1.s hs) t1.mem h1⟩
        · exact h1.elim
    | _ => exact h1.elim
theorem fJs_str : ∀ {ms : List FE} {acc : Str} {s : Slots} {μ m : Mem} {u : U}, fJs ms acc s μ = .ok u m → ∃ y, u = .str y
  | [], acc, s, μ, m, u, h => by cases h; exact ⟨acc, rfl⟩
  | p :: ps, acc, s, μ, m, u, h => by
    unfold fJs at h
    cases e : p s μ with
    | ok w m1 =>
      rw [e] at h
      simp only [Res.bind] at h
      split at h
      · split at h
        · exact fJs_str h
        · cases h
      · cases h
    | ex c m1 => rw [e] at h; cases h
    | bad => rw [e] at h; cases h
theorem ce_joined {e1 e2 : Expr} {es : List Expr} {ms : List FE} {pos : Pos} (h : CJ X W (e1 :: e2 :: es) ms) : CE X W (.JoinedStr (e1 :: e2 :: es) pos) (fJs ms Str.empty) := by
  intro ρ μ s σ H Q hs hm q
  refine ⟨_, pe_joined (pj_all _), ?_⟩
  refine tjs_of h Str.empty ρ μ s σ H _ (by decide +kernel) hs hm ?_
  cases z : fJs ms Str.empty s μ with
  | ok u m =>
    rw [z] at q
    obtain ⟨y, rfl⟩ := fJs_str z
    intro v H' ρ' t r
    have r' := r
    cases r' with
    | str _ => exact ⟨y, rfl, q _ H' ρ' t r⟩
  | ex c m => rw [z] at q; exact q
  | bad => rw [z] at q; exact q
theorem ce_joined1 {e : Expr} {me : FE} {pos : Pos} (he : CE X W e me) : CE X W (.JoinedStr [e] pos) me := by
  intro ρ μ s σ H Q hs hm q
  exact ⟨_, pe_joined1 pe_w, he ρ μ s σ H Q hs hm q⟩
/-! ### try .. except C -/
def sTry (tab : List (Str × Bool)) (body suite : FS) : FS := fun s μ => match body s μ with
  | .ex c s1 μ1 => match tab.lookup c with
    | some true => suite s1 μ1
    | some false => .ex c s1 μ1
    | none => .bad
  | o => o
theorem cs_try {x : Str} {c : Value} {body suite : List Stmt} {b₀ : Stmt} {np pos pos' : Pos} {tab : List (Str × Bool)} {mb ms : FS} (hst : X.stack = X.env :: X.outer) (hfr : X.env.frame = some X.env.locals) (hc : Names X x c) (G : Good X W k)
    (htab : ∀ (n : Str) (b : Bool) (cls : Value), tab.lookup n = some b → X.mg n = some cls → PySem.W.exmOne X.K cls c = some b)
    (hb : ∀ (W' : WX) (pn : List (Addr × Obj)) (xe : Value → Shared → Prop), Takes (X.tr pn xe) W' → PassesOwn (model X.prog X.w) X.A X.env xe → CSs (X.tr pn xe) W' body mb)
    (hsu : ∀ (a : Addr) (oe : Obj) (cls : Value) (d : Option Addr) (pn : List (Addr × Obj)), Zc cls d oe → (∃ vs, oe.data = .fields vs) → CSs (X.suite a ((a, oe) :: pn)) W (b₀ :: suite) ms) :
    CS X W (.Try body [.ExceptHandler (some (.Name x np)) none (b₀ :: suite) pos'] [] [] pos) (sTry tab mb ms) := by
  intro ρ μ s σ H D hs hm h
  refine ⟨_, ps_try_only hst hfr hc (Wout := W) (tb := fun W' D σ H => ∀ pn xe, Takes (X.tr pn xe) W' → PassesOwn (model X.prog X.w) X.A X.env xe → WSs (X.tr pn xe) body D σ H)
    (ts := fun a cls d D σ H => ∀ oe pn, Zc cls d oe → (∃ vs, oe.data = .fields vs) → WSs (X.suite a ((a, oe) :: pn)) (b₀ :: suite) D σ H) G.tk
    (fun W' pn xe tk' po => ⟨fun pins s σ H D I h => pss_w.run pins s σ H D I (h pn xe tk' po)⟩) (fun a oe cls d pn hz hf => ⟨fun pins s σ H D I h => pss_w.run pins s σ H D I (h oe pn hz hf)⟩), ?_⟩
  intro pn xe tk' po
  refine hb _ pn xe tk' po ρ μ s σ H D hs hm ?_
  unfold sTry at h
  cases e : mb s μ with
  | nx s1 m1 => rw [e] at h; exact h
  | rt u m1 => rw [e] at h; exact h
  | bk s1 m1 => rw [e] at h; exact h
  | ct s1 m1 => rw [e] at h; exact h
  | bad => rw [e] at h; exact h
  | ex c' s1 m1 =>
    rw [e] at h
    simp only at h
    intro cls σ' H' ρ' t r em
    cases hl : tab.lookup c' with
    | none => rw [hl] at h; exact h.elim
    | some b =>
      rw [hl] at h
      refine ⟨b, htab c' b cls hl em, ?_, ?_⟩
      · rintro rfl a ha oe pn2 hz hf
        exact hsu a oe cls none pn2 hz hf ρ' m1 s1 σ' H' D r t.mem (PostS.from t h)
      · rintro rfl
        exact h cls σ' H' ρ' t r em
/-! ### own exceptions, by facts of the head -/
def Exn (K : PySem.W.Frag) (mg : Str → Option Value) (x : Str) : Prop := ∃ C : Addr, mg x = some (.ref C) ∧ PySem.W.excIn K C He.veBase "ValueError.__new__" = true ∧ PySem.W.keepIn K (.ref C) = true ∧
  PySem.W.subIn K (.ref C) (.type "BaseException") = some true ∧ PySem.W.typeIn K (.ref C) = some (.type "type")
theorem exn_ok {K : PySem.W.Frag} {h : Heap} {mg : Str → Option Value} (KX : K.In h) (N : h.Ns mainGlobals mg) {x : Str} (c1 : (He.Fa.glo x).ok K = true) (c2 : (He.Fa.exc x).ok K = true) : Exn K mg x :=
  ⟨He.ga K x, He.glo_ok KX N c1, He.exc_ok c2⟩
theorem cs_raiseN {x : Str} {e : Expr} {me : FE} {p pos pos' : Pos} (G : Good X W k) (h : Exn X.K X.mg x) (hg : Gl X x) (he : CE X W e me) (hst : starEach [e] X.env = (false, eval e X.env) :: starEach [] X.env := by rfl)
    (hdb : (x == ("__debug__" : Str)) = false := by decide) : CS X W (.Raise (some (.Call (.Name x p) [e] [] pos)) none pos') (sRaise x me) := by
  obtain ⟨C, h1, h2, h3, h4, h5⟩ := h
  exact cs_raise G PySem.F.excBase_ValueError h2 h1 h3 (raises_own h4 h5) hg he hst hdb
def Exm (K : PySem.W.Frag) (mg : Str → Option Value) (x y : Str) (b : Bool) : Prop := ∃ Cx Cy : Addr, mg x = some (.ref Cx) ∧ mg y = some (.ref Cy) ∧ PySem.W.exmOne K (.ref Cx) (.ref Cy) = some b
theorem exmF_ok {K : PySem.W.Frag} {h : Heap} {mg : Str → Option Value} (KX : K.In h) (N : h.Ns mainGlobals mg) {x y : Str} {b : Bool} (c1 : (He.Fa.glo x).ok K = true) (c2 : (He.Fa.glo y).ok K = true) (c3 : (He.Fa.exm x y b).ok K = true) : Exm K mg x y b :=
  ⟨He.ga K x, He.ga K y, He.glo_ok KX N c1, He.glo_ok KX N c2, He.exm_ok c3⟩
theorem Good.tr (G : Good X W k) {W' : WX} {pn : List (Addr × Obj)} {xe : Value → Shared → Prop} (tk : Takes (X.tr pn xe) W') (po : PassesOwn (model X.prog X.w) X.A X.env xe) : Good (X.tr pn xe) W' k := ⟨G.calm, G.room, tk, po⟩
theorem lookup_mem {α : Type} {n : Str} {b : α} : ∀ {l : List (Str × α)}, l.lookup n = some b → (n, b) ∈ l
  | [], h => by cases h
  | p :: r, h => by
    rw [List.lookup_cons] at h
    split at h
    · rename_i e
      cases h
      have e2 := beq_iff_eq.mp e
      subst e2
      exact List.mem_cons_self
    · exact List.mem_cons_of_mem _ (lookup_mem h)
theorem cs_tryN {x : Str} {body suite : List Stmt} {b₀ : Stmt} {np pos pos' : Pos} {tab : List (Str × Bool)} {mb ms : FS} (G : Good X W k) (hx : Exn X.K X.mg x) (hg : Gl X x) (htab : ∀ q ∈ tab, Exm X.K X.mg q.1 x q.2)
    (hb : ∀ (W' : WX) (pn : List (Addr × Obj)) (xe : Value → Shared → Prop), Good (X.tr pn xe) W' k → CSs (X.tr pn xe) W' body mb)
    (hsu : ∀ (a : Addr) (oe : Obj) (cls : Value) (d : Option Addr) (pn : List (Addr × Obj)), Zc cls d oe → (∃ vs, oe.data = .fields vs) → CSs (X.suite a ((a, oe) :: pn)) W (b₀ :: suite) ms)
    (hst : X.stack = X.env :: X.outer := by rfl) (hfr : X.env.frame = some X.env.locals := by rfl) (hdb : (x == ("__debug__" : Str)) = false := by decide) :
    CS X W (.Try body [.ExceptHandler (some (.Name x np)) none (b₀ :: suite) pos'] [] [] pos) (sTry tab mb ms) := by
  obtain ⟨C, h1, _⟩ := hx
  refine cs_try hst hfr (c := .ref C) ⟨hg, hdb, .inl h1⟩ G (fun n b cls hl hm => ?_) (fun W' pn xe tk po => hb W' pn xe (G.tr tk po)) hsu
  obtain ⟨Cx, Cy, e1, e2, e3⟩ := htab (n, b) (lookup_mem hl)
  simp only at e1 e2 e3
  rw [hm] at e1
  cases e1
  rw [h1] at e2
  cases e2
  exact e3
theorem exm_cons {K : PySem.W.Frag} {mg : Str → Option Value} {x y : Str} {b : Bool} {l : List (Str × Bool)} (h : Exm K mg x y b) (r : ∀ q ∈ l, Exm K mg q.1 y q.2) : ∀ q ∈ ((x, b) :: l), Exm K mg q.1 y q.2 := by
  intro q hq
  rcases List.mem_cons.mp hq with rfl | hq
  · exact h
  · exact r q hq
end
end Dg
/-! Dg10: {k: v, ..}. -/
namespace Dg
open PySem PySem.Spec PyProof.Rows L2 RZ
def mergeU (kus more : List (Key × U)) : List (Key × U) := more.foldl (fun acc kv => putU acc kv.1 kv.2) kus
theorem RepKV.merge {K : PySem.W.Frag} {H : Hp} {ρ : List Addr} : ∀ {more : List (Key × U)} {mv : List (Key × V)} {kus : List (Key × U)} {kvs : List (Key × V)}, RepKV K H ρ more mv → RepKV K H ρ kus kvs → RepKV K H ρ (mergeU kus more) (mergeK kvs mv)
  | [], mv, kus, kvs, h, g => by
    have := h.unnil
    subst this
    exact g
  | (k, u) :: more, mv, kus, kvs, h, g => by
    obtain ⟨v, mv', e, r, h'⟩ := h.uncons
    subst e
    show RepKV K H ρ (mergeU (putU kus k u) more) (mergeK (putK kvs k v) mv')
    exact RepKV.merge h' (RepKV.put r g)
def fPairs : List (FE × FE) → Slots → Mem → Res (List (Key × U))
  | [], _, μ => .ok [] μ
  | (k, v) :: r, s, μ => (k s μ).bind fun ku μ1 => (v s μ1).bind fun u μ2 => match keyU ku with
    | some key => (fPairs r s μ2).bind fun kus μ3 => .ok ((key, u) :: kus) μ3
    | none => .bad
def relKV : RelT (List (Key × U)) (List (Key × V)) := fun K H ρ a b => RepKV K H ρ a b
def fDisp (ms : List (FE × FE)) : FE := fun s μ => (fPairs ms s (μ ++ [.dct []])).bind fun kus μ1 => match μ1[μ.length]? with
  | some (.dct []) => if kus.length ≤ 15 then .ok (.ref μ.length) (μ1.set μ.length (.dct (mergeU [] kus))) else .bad
  | _ => .bad
theorem Post.from' {α β : Type} {X : Cx} {W : WX} {σ : L2.St} {rel : RelT α β} {ρ ρ1 : List Addr} {H H1 : Hp} {μ1 : Mem} {r : Res α} {Q : β → Hp → Prop} (t : Stp X.K ρ H ρ1 H1 μ1) (h : Post X W σ rel ρ H r Q) : Post X W σ rel ρ1 H1 r Q := by
  cases r with
  | ok a m => exact fun v H' ρ' t' r => h v H' ρ' (t.trans t') r
  | ex c m => exact fun cls H' ρ' t' e => h cls H' ρ' (t.trans t') e
  | bad => exact h
section
variable {X : Cx} {W : WX} {k : Nat}
inductive CP (X : Cx) (W : WX) : List (Option Expr) → List Expr → List (FE × FE) → Prop
  | nil : CP X W [] [] []
  | cons {k v : Expr} {mk mv : FE} {ks : List (Option Expr)} {vs : List Expr} {ms : List (FE × FE)} (hk : CE X W k mk) (hv : CE X W v mv) (r : CP X W ks vs ms) : CP X W (some k :: ks) (v :: vs) ((mk, mv) :: ms)
theorem CP.pairs {pos : Pos} {ks : List (Option Expr)} {vs : List Expr} {ms : List (FE × FE)} (c : CP X W ks vs ms) : ∃ trs : List (TE × TE), PPs X pos ks vs trs ∧ ∀ (ρ : List Addr) (μ : Mem) (s : Slots) (σ : L2.St) (H : Hp) (Q : List (V × V) → Hp → Prop), RepS X.K H ρ s σ → RepM X.K H ρ μ →
    Post X W σ relKV ρ H (fPairs ms s μ) (fun kvs H3 => Q (kvs.map fun kv => (kV kv.1, kv.2)) H3) → tPairs trs σ H Q := by
  induction c with
  | nil => exact ⟨[], pps_nil, fun ρ μ s σ H Q hs hm h => h.ok (v := []) (Stp.refl hm) RepKV.nil⟩
  | @cons k v mk mv ks vs ms hk hv r ih =>
    obtain ⟨trs, p, ih⟩ := ih
    refine ⟨(WE X k, WE X v) :: trs, pps_cons pe_w pe_w p, fun ρ μ s σ H Q hs hm h => ?_⟩
    refine hk ρ μ s σ H _ hs hm (h.bind fun ku μ1 x H1 ρ1 t1 r1 h1 => ?_)
    refine hv ρ1 μ1 s σ H1 _ (t1.s hs) t1.mem (h1.bind fun u μ2 y H2 ρ2 t2 r2 h2 => ?_)
    split at h2
    · rename_i key e
      have ex : x = kV key := keyU_ok (t2.v r1) e
      subst ex
      refine ih ρ2 μ2 s σ H2 _ (t2.s (t1.s hs)) t2.mem (h2.bind (rel1 := relKV) fun kus μ3 kvs H3 ρ3 t3 r3 h3 => ?_)
      exact h3.ok (v := (key, y) :: kvs) (Stp.refl t3.mem) (RepKV.cons (t3.v r2) r3)
    · exact h2.elim
theorem ce_disp {ks : List (Option Expr)} {vs : List Expr} {ms : List (FE × FE)} {pos : Pos} (c : CP X W ks vs ms) (hall : ks.all (·.isSome) = true := by rfl) (hl : ks.length = vs.length := by rfl) (h0 : ks ≠ [] := by exact List.cons_ne_nil _ _)
    (h15 : ks.length ≤ 15 := by decide) : CE X W (.Dict ks vs pos) (fDisp ms) := by
  intro ρ μ s σ H Q hs hm h
  obtain ⟨trs, p, run⟩ := c.pairs (pos := pos)
  refine ⟨_, pe_disp p hall hl h0 h15, fun q nq => ?_⟩
  have t0 := newD hm nq (RepKV.nil (K := X.K) (H := H) (ρ := ρ))
  refine run (ρ ++ [q]) (μ ++ [.dct []]) s σ _ _ (t0.s hs) t0.mem ((Post.from' t0 h).bind (rel1 := relKV) fun kus μ1 kvs H1 ρ1 t1 r1 h1 => ?_)
  split at h1
  · rename_i e
    split at h1
    · rename_i hz
      have er : ρ1[μ.length]? = some q := t1.ext.get (by rw [← hm.len]; simp)
      obtain ⟨c, ec, rc⟩ := t1.mem.at er
      rw [e] at ec
      cases ec
      obtain ⟨kv0, a1, a2, a3⟩ := rc
      have : kv0 = [] := by simpa using a2
      subst this
      refine ⟨a1, kvs, rfl, by rw [r1.length]; exact hz, ?_⟩
      exact h1.ok (putD t1.mem er e (RepKV.merge r1 RepKV.nil)) (.ref er)
    · exact h1.elim
  · exact h1.elim
end
end Dg
/-! Dg11: try .. except C as e: return .., where e is asked by isinstance alone. -/
namespace Dg
open PySem PySem.Spec PyProof.Rows L2 RZ
theorem RepS.hide {K : PySem.W.Frag} {H : Hp} {ρ : List Addr} {s : Slots} {σ : L2.St} (h : RepS K H ρ s σ) (i : Nat) (x : Option V) : RepS K H ρ (s.set i none) (σ.set i x) := by
  refine ⟨by simpa using h.len, fun j u e => ?_⟩
  by_cases hj : i = j
  · subst hj
    rw [List.getElem?_set] at e
    simp at e
  · rw [List.getElem?_set_ne hj] at e
    rw [List.getElem?_set_ne hj]
    exact h.get j u e
section
variable {X : Cx} {W : WX} {k i : Nat} {a : Addr}
/-- an expression where slot i holds a -/
def CEat (X : Cx) (W : WX) (i : Nat) (a : Addr) (e : Expr) (m : FE) : Prop := ∀ ρ μ s σ H Q, σ[i]? = some (some (.ref a)) → RepS X.K H ρ s σ → RepM X.K H ρ μ → Post X W σ relV ρ H (m s μ) Q → WE X e σ H Q
theorem at_of {e : Expr} {m : FE} (h : CE X W e m) : CEat X W i a e m := fun ρ μ s σ H Q _ hs hm q => h ρ μ s σ H Q hs hm q
theorem at_one {op : BoolOp} {e : Expr} {m : FE} {pos : Pos} (ha : CEat X W i a e m) : CEat X W i a (.BoolOp op [e] pos) m := fun ρ μ s σ H Q hi hs hm p => ⟨_, pe_one pe_w, ha ρ μ s σ H Q hi hs hm p⟩
theorem at_and {e b : Expr} {rest : List Expr} {ma mb : FE} {pos : Pos} (ha : CEat X W i a e ma) (hb : CEat X W i a (.BoolOp .And (b :: rest) pos) mb) : CEat X W i a (.BoolOp .And (e :: b :: rest) pos) (fAnd ma mb) := by
  intro ρ μ s σ H Q hi hs hm h
  refine ⟨_, pe_and pe_w pe_w, ?_⟩
  refine ha ρ μ s σ H _ hi hs hm (h.bind fun b μ1 x H1 ρ1 t1 r1 h1 => ?_)
  split at h1
  · cases r1
    exact ⟨_, rfl, iteT (hb ρ1 μ1 s σ H1 Q hi (t1.s hs) t1.mem h1)⟩
  · cases r1
    exact ⟨_, rfl, iteF (h1.ok (Stp.refl t1.mem) .bl)⟩
  · exact h1.elim
theorem at_or {e b : Expr} {rest : List Expr} {ma mb : FE} {pos : Pos} (ha : CEat X W i a e ma) (hb : CEat X W i a (.BoolOp .Or (b :: rest) pos) mb) : CEat X W i a (.BoolOp .Or (e :: b :: rest) pos) (fOr ma mb) := by
  intro ρ μ s σ H Q hi hs hm h
  refine ⟨_, pe_or pe_w pe_w, ?_⟩
  refine ha ρ μ s σ H _ hi hs hm (h.bind fun b μ1 x H1 ρ1 t1 r1 h1 => ?_)
  split at h1
  · cases r1
    exact ⟨_, rfl, iteT (h1.ok (Stp.refl t1.mem) .bl)⟩
  · cases r1
    exact ⟨_, rfl, iteF (hb ρ1 μ1 s σ H1 Q hi (t1.s hs) t1.mem h1)⟩
  · exact h1.elim
theorem at_not {e : Expr} {ma : FE} {pos : Pos} (ha : CEat X W i a e ma) : CEat X W i a (.UnaryOp .Not e pos) (fNot ma) := by
  intro ρ μ s σ H Q hi hs hm h
  refine ⟨_, pe_not pe_w, ?_⟩
  refine ha ρ μ s σ H _ hi hs hm (h.bind fun b μ1 x H1 ρ1 t1 r1 h1 => ?_)
  split at h1
  · cases r1
    exact ⟨_, rfl, h1.ok (Stp.refl t1.mem) .bl⟩
  · exact h1.elim
theorem at_isE {D Cy : Addr} {oe : Obj} {pn : List (Addr × Obj)} {n y : Str} {b : Bool} {p p1 p2 pos : Pos} (C : ExcC X.K D) (hz : Zc (.ref D) none oe) (hf : ∃ vs, oe.data = .fields vs) (hk : PySem.W.kitOne X.K (.ref D) (.ref Cy) = some b)
    (hN : X.N[i]? = some n) (hv : Vis X.env.scope n) (hy : X.mg y = some (.ref Cy)) (hgy : Gl X y) (hg : Gl X "isinstance") (hm0 : X.mg "isinstance" = none)
    (hd : (n == ("__debug__" : Str)) = false := by decide) (hcd : (n == ("__classdict__" : Str)) = false := by decide) (hdy : (y == ("__debug__" : Str)) = false := by decide)
    (he : starEach [.Name n p1, .Name y p2] (X.suite a ((a, oe) :: pn)).env = (false, eval (.Name n p1) (X.suite a ((a, oe) :: pn)).env) :: starEach [.Name y p2] (X.suite a ((a, oe) :: pn)).env := by rfl)
    (he2 : starEach [.Name y p2] (X.suite a ((a, oe) :: pn)).env = (false, eval (.Name y p2) (X.suite a ((a, oe) :: pn)).env) :: starEach [] (X.suite a ((a, oe) :: pn)).env := by rfl)
    (hpl : (backTo pos (starEach [.Name y p2] (X.suite a ((a, oe) :: pn)).env)).any (·.1) = false := by rfl) :
    CEat (X.suite a ((a, oe) :: pn)) W i a (.Call (.Name "isinstance" p) [.Name n p1, .Name y p2] [] pos) (fC (.bl b)) := by
  intro ρ μ s σ H Q hi hs hm h
  have hv1 : PE (X.suite a ((a, oe) :: pn)) (.Name n p1) (tVar i) := pe_var hN hv hd hcd
  have hv2 : PE (X.suite a ((a, oe) :: pn)) (.Name y p2) (tC (.ref Cy)) := pe_glob hgy hy (v := .ref Cy) rfl hdy
  refine ⟨_, pe_callB (call_isE C hz hf) hg hm0 bt_isinstance (pa_cons hv1 (pa_cons hv2 pa_nil he2) he) (he := he) (hpl := hpl), ?_⟩
  refine ⟨.ref a, hi, ?_⟩
  refine ⟨.ref Cy, .ref Cy, b, rfl, fun u hu => hu, hk, h.ok (Stp.refl hm) .bl⟩
/-! ### isinstance(e, C) by the name of the class that was raised -/
def fIsX (tab : List (Str × Bool)) (c : Str) : FE := match tab.lookup c with
  | some b => fC (.bl b)
  | none => fun _ _ => .bad
def Isx (K : PySem.W.Frag) (mg : Str → Option Value) (x y : Str) (b : Bool) : Prop := ∃ D Cy : Addr, mg x = some (.ref D) ∧ mg y = some (.ref Cy) ∧ ExcC K D ∧ PySem.W.kitOne K (.ref D) (.ref Cy) = some b
theorem isx_cons {K : PySem.W.Frag} {mg : Str → Option Value} {x y : Str} {b : Bool} {l : List (Str × Bool)} (h : Isx K mg x y b) (r : ∀ q ∈ l, Isx K mg q.1 y q.2) : ∀ q ∈ ((x, b) :: l), Isx K mg q.1 y q.2 := by
  intro q hq
  rcases List.mem_cons.mp hq with rfl | hq
  · exact h
  · exact r q hq
theorem exC_ok {K : PySem.W.Frag} {D : Addr} (c : exC K D = true) : ExcC K D := by
  unfold exC at c
  simp only [Bool.and_eq_true, decide_eq_true_eq] at c
  obtain ⟨c1, c2, c3, c4, c5, c6, c7, c8⟩ := c
  exact ⟨He.eqO_ok c1, He.eqO_ok c2, c3, c4, He.eqO_ok c5, He.eqO_ok c6, c7, c8⟩
theorem isxF_ok {K : PySem.W.Frag} {h : Heap} {mg : Str → Option Value} (KX : K.In h) (N : h.Ns mainGlobals mg) {x y : Str} {b : Bool} (c1 : (He.Fa.glo x).ok K = true) (c2 : (He.Fa.glo y).ok K = true) (c3 : (FaU.isx x y b).ok K = true) : Isx K mg x y b := by
  simp only [FaU.ok, Bool.and_eq_true, decide_eq_true_eq] at c3
  exact ⟨He.ga K x, He.ga K y, He.glo_ok KX N c1, He.glo_ok KX N c2, exC_ok c3.1, c3.2⟩
theorem at_isX {D : Addr} {oe : Obj} {pn : List (Addr × Obj)} {n y c : Str} {tab : List (Str × Bool)} {p p1 p2 pos : Pos} (ht : ∀ q ∈ tab, Isx X.K X.mg q.1 y q.2) (hc : X.mg c = some (.ref D)) (hz : Zc (.ref D) none oe) (hf : ∃ vs, oe.data = .fields vs)
    (hN : X.N[i]? = some n) (hv : Vis X.env.scope n) (hgy : Gl X y) (hg : Gl X "isinstance") (hm0 : X.mg "isinstance" = none)
    (hd : (n == ("__debug__" : Str)) = false := by decide) (hcd : (n == ("__classdict__" : Str)) = false := by decide) (hdy : (y == ("__debug__" : Str)) = false := by decide)
    (he : starEach [.Name n p1, .Name y p2] (X.suite a ((a, oe) :: pn)).env = (false, eval (.Name n p1) (X.suite a ((a, oe) :: pn)).env) :: starEach [.Name y p2] (X.suite a ((a, oe) :: pn)).env := by rfl)
    (he2 : starEach [.Name y p2] (X.suite a ((a, oe) :: pn)).env = (false, eval (.Name y p2) (X.suite a ((a, oe) :: pn)).env) :: starEach [] (X.suite a ((a, oe) :: pn)).env := by rfl)
    (hpl : (backTo pos (starEach [.Name y p2] (X.suite a ((a, oe) :: pn)).env)).any (·.1) = false := by rfl) :
    CEat (X.suite a ((a, oe) :: pn)) W i a (.Call (.Name "isinstance" p) [.Name n p1, .Name y p2] [] pos) (fIsX tab c) := by
  unfold fIsX
  cases hl : tab.lookup c with
  | none => exact fun ρ μ s σ H Q _ _ _ q => q.elim
  | some b =>
    obtain ⟨D2, Cy, e1, e2, e3, e4⟩ := ht (c, b) (lookup_mem hl)
    simp only at e1 e2 e3 e4
    rw [hc] at e1
    cases e1
    exact at_isE e3 hz hf e4 hN hv e2 hgy hg hm0 hd hcd hdy he he2 hpl
theorem bt_ValueError : bootBuiltins "ValueError" = some (.type "ValueError") := by decide +kernel
def Isv (K : PySem.W.Frag) (mg : Str → Option Value) (x : Str) (b : Bool) : Prop := ∃ D : Addr, mg x = some (.ref D) ∧ ExcC K D ∧ PySem.W.kitOne K (.ref D) (.type "ValueError") = some b
theorem isv_cons {K : PySem.W.Frag} {mg : Str → Option Value} {x : Str} {b : Bool} {l : List (Str × Bool)} (h : Isv K mg x b) (r : ∀ q ∈ l, Isv K mg q.1 q.2) : ∀ q ∈ ((x, b) :: l), Isv K mg q.1 q.2 := by
  intro q hq
  rcases List.mem_cons.mp hq with rfl | hq
  · exact h
  · exact r q hq
theorem isvF_ok {K : PySem.W.Frag} {h : Heap} {mg : Str → Option Value} (KX : K.In h) (N : h.Ns mainGlobals mg) {x : Str} {b : Bool} (c1 : (He.Fa.glo x).ok K = true) (c3 : (FaU.isv x "ValueError" b).ok K = true) : Isv K mg x b := by
  simp only [FaU.ok, Bool.and_eq_true, decide_eq_true_eq] at c3
  exact ⟨He.ga K x, He.glo_ok KX N c1, exC_ok c3.1.1, c3.2⟩
theorem at_isV {D : Addr} {oe : Obj} {pn : List (Addr × Obj)} {n c : Str} {tab : List (Str × Bool)} {p p1 p2 pos : Pos} (ht : ∀ q ∈ tab, Isv X.K X.mg q.1 q.2) (hc : X.mg c = some (.ref D)) (hz : Zc (.ref D) none oe) (hf : ∃ vs, oe.data = .fields vs)
    (hN : X.N[i]? = some n) (hv : Vis X.env.scope n) (hgy : Gl X "ValueError") (hmy : X.mg "ValueError" = none) (hg : Gl X "isinstance") (hm0 : X.mg "isinstance" = none)
    (hd : (n == ("__debug__" : Str)) = false := by decide) (hcd : (n == ("__classdict__" : Str)) = false := by decide)
    (he : starEach [.Name n p1, .Name "ValueError" p2] (X.suite a ((a, oe) :: pn)).env = (false, eval (.Name n p1) (X.suite a ((a, oe) :: pn)).env) :: starEach [.Name "ValueError" p2] (X.suite a ((a, oe) :: pn)).env := by rfl)
    (he2 : starEach [.Name "ValueError" p2] (X.suite a ((a, oe) :: pn)).env = (false, eval (.Name "ValueError" p2) (X.suite a ((a, oe) :: pn)).env) :: starEach [] (X.suite a ((a, oe) :: pn)).env := by rfl)
    (hpl : (backTo pos (starEach [.Name "ValueError" p2] (X.suite a ((a, oe) :: pn)).env)).any (·.1) = false := by rfl) :
    CEat (X.suite a ((a, oe) :: pn)) W i a (.Call (.Name "isinstance" p) [.Name n p1, .Name "ValueError" p2] [] pos) (fIsX tab c) := by
  unfold fIsX
  cases hl : tab.lookup c with
  | none => exact fun ρ μ s σ H Q _ _ _ q => q.elim
  | some b =>
    obtain ⟨D2, e1, e3, e4⟩ := ht (c, b) (lookup_mem hl)
    simp only at e1 e3 e4
    rw [hc] at e1
    cases e1
    intro ρ μ s σ H Q hi hs hm h
    have hv1 : PE (X.suite a ((a, oe) :: pn)) (.Name n p1) (tVar i) := pe_var hN hv hd hcd
    have hv2 : PE (X.suite a ((a, oe) :: pn)) (.Name "ValueError" p2) (tC (.ty "ValueError")) := pe_bltn hgy hmy bt_ValueError rfl
    refine ⟨_, pe_callB (call_isE e3 hz hf) hg hm0 bt_isinstance (pa_cons hv1 (pa_cons hv2 pa_nil he2) he) (he := he) (hpl := hpl), ?_⟩
    refine ⟨.ref a, hi, ?_⟩
    exact ⟨.ty "ValueError", .type "ValueError", b, rfl, fun u hu => hu, e4, h.ok (Stp.refl hm) .bl⟩
/-! ### the statement -/
def sTryAs (tab : List (Str × Bool)) (i : Nat) (body : FS) (ms : Str → FE) : FS := fun s μ => match body s μ with
  | .ex c s1 μ1 => match tab.lookup c with
    | some true => if i < s1.length then ofR (ms c (s1.set i none) μ1) (s1.set i none) fun u μ2 => .rt u μ2 else .bad
    | some false => .ex c s1 μ1
    | none => .bad
  | o => o
theorem cs_tryAs_end {a0 : Addr} {oe : Obj} {pn2 : List (Addr × Obj)} {e : Expr} {m : FE} {rp : Pos} {ρ ρ' : List Addr} {H H' : Hp} {s1 : Slots} {m1 : Mem} {σ' : L2.St} {D D' : Ends} (hce : CEat (X.suite a0 ((a0, oe) :: pn2)) W i a0 e m) (hlt : i < s1.length) (r : RepS X.K H' ρ' s1 σ') (t : Stp X.K ρ H ρ' H' m1)
    (h : PostS X W ρ H (ofR (m (s1.set i none) m1) (s1.set i none) fun u μ2 => .rt u μ2) D) (hD : D'.rt = D.rt := by rfl) : WSs (X.suite a0 ((a0, oe) :: pn2)) [.Return (some e) rp] D' (σ'.set i (some (.ref a0))) H' := by
  have r2 := r.hide i (some (.ref a0))
  have hl : i < σ'.length := by rw [← r.len]; exact hlt
  have hz2 : (σ'.set i (some (V.ref a0)))[i]? = some (some (.ref a0)) := by rw [List.getElem?_set_self hl]
  refine ⟨_, pss_one (ps_ret pe_w), ?_⟩
  refine hce ρ' m1 _ _ H' _ hz2 r2 t.mem ?_
  have h' : PostS X W ρ' H' (ofR (m (s1.set i none) m1) (s1.set i none) fun u μ2 => .rt u μ2) D := PostS.from t h
  exact PostS.bind r2 h' fun u μ1 y H1 ρ1 t1 r1 h1 => by rw [hD]; exact h1 y H1 ρ1 (Stp.refl t1.mem) r1
theorem cs_tryAs {x n : Str} {body : List Stmt} {e : Expr} {np pos pos' rp : Pos} {tab : List (Str × Bool)} {mb : FS} {ms : Str → FE} (G : Good X W k) (hN : X.N.Nodup) (hi : X.N[i]? = some n) (hln : X.env.kindOf n = some .local) (hx : Exn X.K X.mg x) (hg : Gl X x)
    (htab : ∀ q ∈ tab, Exm X.K X.mg q.1 x q.2)
    (hb : ∀ (W' : WX) (pn : List (Addr × Obj)) (xe : Value → Shared → Prop), Good (X.tr pn xe) W' k → CSs (X.tr pn xe) W' body mb)
    (hsu : ∀ (c : Str) (C a : Addr) (oe : Obj) (pn : List (Addr × Obj)), (c, true) ∈ tab → X.mg c = some (.ref C) → Zc (.ref C) none oe → (∃ vs, oe.data = .fields vs) → CEat (X.suite a ((a, oe) :: pn)) W i a e (ms c))
    (hst : X.stack = X.env :: X.outer := by rfl) (hfr : X.env.frame = some X.env.locals := by rfl) (hdb : (x == ("__debug__" : Str)) = false := by decide) :
    CS X W (.Try body [.ExceptHandler (some (.Name x np)) (some n) [.Return (some e) rp] pos'] [] [] pos) (sTryAs tab i mb ms) := by
  obtain ⟨C, h1, _⟩ := hx
  intro ρ μ s σ H D hs hm h
  refine ⟨_, ps_try_as (c := .ref C) hst hfr hN hi hln ⟨hg, hdb, .inl h1⟩ (Wout := W) (tb := fun W' D σ H => ∀ pn xe, Takes (X.tr pn xe) W' → PassesOwn (model X.prog X.w) X.A X.env xe → WSs (X.tr pn xe) body D σ H)
    (ts := fun a cls d D σ H => ∀ oe pn, Zc cls d oe → (∃ vs, oe.data = .fields vs) → WSs (X.suite a ((a, oe) :: pn)) [.Return (some e) rp] D σ H) G.tk
    (fun W' pn xe tk' po => ⟨fun pins s σ H D I h => pss_w.run pins s σ H D I (h pn xe tk' po)⟩) (fun a oe cls d pn hz hf => ⟨fun pins s σ H D I h => pss_w.run pins s σ H D I (h oe pn hz hf)⟩), ?_⟩
  intro pn xe tk' po
  refine hb _ pn xe (G.tr tk' po) ρ μ s σ H D hs hm ?_
  unfold sTryAs at h
  cases eb : mb s μ with
  | nx s1 m1 => rw [eb] at h; exact h
  | rt u m1 => rw [eb] at h; exact h
  | bk s1 m1 => rw [eb] at h; exact h
  | ct s1 m1 => rw [eb] at h; exact h
  | bad => rw [eb] at h; exact h
  | ex c' s1 m1 =>
    rw [eb] at h
    simp only at h
    intro cls σ' H' ρ' t r em
    cases hl : tab.lookup c' with
    | none => rw [hl] at h; exact h.elim
    | some b =>
      rw [hl] at h
      obtain ⟨Cx, Cy, e1, e2, e3⟩ := htab (c', b) (lookup_mem hl)
      simp only at e1 e2 e3
      have em' : X.mg c' = some cls := em
      rw [em'] at e1
      cases e1
      rw [h1] at e2
      cases e2
      refine ⟨b, e3, ?_, ?_⟩
      · rintro rfl a0 ha oe pn2 hz hf
        simp only at h
        split at h
        · rename_i hlt
          exact cs_tryAs_end (hsu c' Cx a0 oe pn2 (lookup_mem hl) em' hz hf) hlt r t h
        · exact h.elim
      · rintro rfl
        exact h _ σ' H' ρ' t r em
end
end Dg
/-! Dg12: x in TABLE, TABLE a dict of the module with text keys. -/
namespace Dg
open PySem PySem.Spec PyProof.Rows L2 RZ
theorem find_keys {z : Str} : ∀ {l : List DictEntry} {ks : List Str}, l.map keyN = ks.map some → l.any (·.refKey) = false ∧ (l.find? (·.key.isStr z)).isSome = decide (z ∈ ks)
  | [], ks, h => by
    have : ks = [] := by simpa using h.symm
    subst this
    simp
  | e :: l, [], h => by simp at h
  | e :: l, k :: ks, h => by
    simp only [List.map_cons, List.cons.injEq] at h
    obtain ⟨h1, h2⟩ := h
    obtain ⟨i1, i2⟩ := find_keys (z := z) h2
    unfold keyN at h1
    split at h1
    · rename_i x t ek
      cases h1
      have ek2 : e.refKey = false := by unfold DictEntry.refKey; rw [ek]
      refine ⟨by rw [List.any_cons, ek2, i1]; rfl, ?_⟩
      rw [List.find?_cons]
      by_cases hz : k = z
      · subst hz
        simp [ek, Value.isStr]
      · have : e.key.isStr z = false := by rw [ek]; simpa [Value.isStr] using hz
        rw [this]
        simp only [i2, List.mem_cons]
        simp [Ne.symm hz]
    · cases h1
theorem ns_keys {K : PySem.W.Frag} {a : Addr} {ks : List Str} (h : keysB K a ks = true) (z : Str) : ∃ r, PySem.W.nsIn K a z = some r ∧ r.isSome = decide (z ∈ ks) := by
  unfold keysB at h
  unfold PySem.W.nsIn
  split at h
  · rename_i oc od es n sl e
    obtain ⟨i1, i2⟩ := find_keys (z := z) (of_decide_eq_true h)
    rw [e]
    simp only
    cases ef : es.toList.find? (·.key.isStr z) with
    | some q => rw [ef] at i2; exact ⟨_, rfl, i2⟩
    | none => rw [ef] at i2; simp only [i1]; exact ⟨none, rfl, i2⟩
  · cases h
def KIn (K : PySem.W.Frag) (mg : Str → Option Value) (w : World) (x : Str) (ks : List Str) : Prop := ∃ a es n, mg x = some (.ref a) ∧ KDict K w a es n ∧ keysB K a ks = true
section
variable {X : Cx} {W : WX} {k : Nat}
def fKIn (ks : List Str) (a : FE) : FE := fun s μ => (a s μ).bind fun u μ1 => match u with
  | .str z => .ok (.bl (decide (z ∈ ks))) μ1
  | _ => .bad
theorem ce_kin {x : Str} {ks : List Str} {a : Expr} {ma : FE} {p pos : Pos} (hg : Gl X x) (h : KIn X.K X.mg X.w x ks) (ha : CE X W a ma) (hd : (x == ("__debug__" : Str)) = false := by decide) : CE X W (.Compare a [.In] [.Name x p] pos) (fKIn ks ma) := by
  obtain ⟨d, es, n, h1, h2, h3⟩ := h
  intro ρ μ s σ H Q hs hm q
  refine ⟨_, pe_cmpR (op_in_kd h2) pe_w (pe_glob hg h1 (v := .ref d) rfl hd) (by rfl), ?_⟩
  refine ha ρ μ s σ H _ hs hm (q.bind fun u μ1 y H1 ρ1 t1 r1 q1 => ?_)
  cases u with
  | str z =>
    cases r1
    obtain ⟨r, e1, e2⟩ := ns_keys h3 z
    refine ⟨z, r, rfl, rfl, e1, ?_⟩
    rw [e2]
    exact q1.ok (Stp.refl t1.mem) .bl
  | _ => exact q1.elim
theorem ce_knin {x : Str} {ks : List Str} {a : Expr} {ma : FE} {p pos : Pos} (hg : Gl X x) (h : KIn X.K X.mg X.w x ks) (ha : CE X W a ma) (hd : (x == ("__debug__" : Str)) = false := by decide) : CE X W (.Compare a [.NotIn] [.Name x p] pos) (fNot (fKIn ks ma)) := by
  obtain ⟨d, es, n, h1, h2, h3⟩ := h
  intro ρ μ s σ H Q hs hm q
  refine ⟨_, pe_cmpR (op_notIn_kd h2) pe_w (pe_glob hg h1 (v := .ref d) rfl hd) (by rfl), ?_⟩
  have q' : Post X W σ relV ρ H ((ma s μ).bind fun u μ1 => ((match u with
    | .str z => .ok (.bl (decide (z ∈ ks))) μ1
    | _ => .bad : Res U)).bind fun u μ1 => match u with
    | .bl b => .ok (.bl (!b)) μ1
    | _ => .bad) Q := by
    have e : fNot (fKIn ks ma) s μ = ((ma s μ).bind fun u μ1 => ((match u with
      | .str z => .ok (.bl (decide (z ∈ ks))) μ1
      | _ => .bad : Res U)).bind fun u μ1 => match u with
      | .bl b => .ok (.bl (!b)) μ1
      | _ => .bad) := by
      unfold fNot fKIn
      cases ma s μ <;> rfl
    rw [← e]; exact q
  refine ha ρ μ s σ H _ hs hm (q'.bind fun u μ1 y H1 ρ1 t1 r1 q1 => ?_)
  cases u with
  | str z =>
    cases r1
    obtain ⟨r, e1, e2⟩ := ns_keys h3 z
    refine ⟨z, r, rfl, rfl, e1, ?_⟩
    rw [e2]
    exact Post.ok (u := U.bl (!decide (z ∈ ks))) q1 (Stp.refl t1.mem) .bl
  | _ => exact q1.elim
def tKIn (ks : List Str) (a : FE) : FT := fun s μ => (a s μ).bind fun u μ1 => match u with
  | .str z => .ok (decide (z ∈ ks)) μ1
  | _ => .bad
theorem ct_kin {x : Str} {ks : List Str} {a : Expr} {ma : FE} {p pos : Pos} (hg : Gl X x) (h : KIn X.K X.mg X.w x ks) (ha : CE X W a ma) (hd : (x == ("__debug__" : Str)) = false := by decide) : CT X W (.Compare a [.In] [.Name x p] pos) (tKIn ks ma) := by
  obtain ⟨d, es, n, h1, h2, h3⟩ := h
  intro ρ μ s σ H Q hs hm q
  refine ⟨_, pt_cmpR (op_in_kd h2) pe_w (pe_glob hg h1 (v := .ref d) rfl hd) (by rfl), ?_⟩
  refine ha ρ μ s σ H _ hs hm (q.bind fun u μ1 y H1 ρ1 t1 r1 q1 => ?_)
  cases u with
  | str z =>
    cases r1
    obtain ⟨r, e1, e2⟩ := ns_keys h3 z
    refine ⟨z, r, rfl, rfl, e1, ?_⟩
    rw [e2]
    exact ⟨_, rfl, q1.ok (Stp.refl t1.mem) rfl⟩
  | _ => exact q1.elim
def tKNin (ks : List Str) (a : FE) : FT := fun s μ => (a s μ).bind fun u μ1 => match u with
  | .str z => .ok (!decide (z ∈ ks)) μ1
  | _ => .bad
theorem ct_knin {x : Str} {ks : List Str} {a : Expr} {ma : FE} {p pos : Pos} (hg : Gl X x) (h : KIn X.K X.mg X.w x ks) (ha : CE X W a ma) (hd : (x == ("__debug__" : Str)) = false := by decide) : CT X W (.Compare a [.NotIn] [.Name x p] pos) (tKNin ks ma) := by
  obtain ⟨d, es, n, h1, h2, h3⟩ := h
  intro ρ μ s σ H Q hs hm q
  refine ⟨_, pt_cmpR (op_notIn_kd h2) pe_w (pe_glob hg h1 (v := .ref d) rfl hd) (by rfl), ?_⟩
  refine ha ρ μ s σ H _ hs hm (q.bind fun u μ1 y H1 ρ1 t1 r1 q1 => ?_)
  cases u with
  | str z =>
    cases r1
    obtain ⟨r, e1, e2⟩ := ns_keys h3 z
    refine ⟨z, r, rfl, rfl, e1, ?_⟩
    rw [e2]
    exact ⟨_, rfl, q1.ok (Stp.refl t1.mem) rfl⟩
  | _ => exact q1.elim
end
theorem kin_ok {K : PySem.W.Frag} {h : Heap} {mg : Str → Option Value} {w : World} (KX : K.In h) (N : h.Ns mainGlobals mg) {x : Str} {ks : List Str} {es : Array DictEntry} {n : Nat} (c1 : (He.Fa.glo x).ok K = true) (c2 : (FaU.keys x ks).ok K = true) (D : KDict K w (He.ga K x) es n) : KIn K mg w x ks :=
  ⟨He.ga K x, es, n, He.glo_ok KX N c1, D, c2⟩
end Dg
/-! Dg13: list.index, list.insert, dict.get. -/
namespace Dg
open PySem PySem.Spec PyProof.Rows L2 RZ
section
variable {X : Cx} {W : WX} {k : Nat}
/-! ### list.index of flat values -/
def flU : U → Option V
  | .non => some .non
  | .bl b => some (.bl b)
  | .int i => some (.int i)
  | .str s => some (.str s)
  | _ => none
theorem flU_ok {K : PySem.W.Frag} {H : Hp} {ρ : List Addr} {u : U} {v x : V} (r : RepV K H ρ u v) (e : flU u = some x) : v = x ∧ flatV v = true := by
  cases r <;> simp only [flU, Option.some.injEq, reduceCtorEq] at e
  · subst e; exact ⟨rfl, rfl⟩
  · subst e; exact ⟨rfl, rfl⟩
  · subst e; exact ⟨rfl, rfl⟩
  · subst e; exact ⟨rfl, rfl⟩
def flUs : List U → Option (List V)
  | [] => some []
  | u :: us => match flU u, flUs us with
    | some v, some vs => some (v :: vs)
    | _, _ => none
theorem flUs_ok {K : PySem.W.Frag} {H : Hp} {ρ : List Addr} : ∀ {us : List U} {vs xs : List V}, RepVs K H ρ us vs → flUs us = some xs → vs = xs ∧ vs.all flatV = true
  | [], _, _, r, e => by cases r; cases e; exact ⟨rfl, rfl⟩
  | u :: us, _, xs, r, e => by
    cases r with
    | cons h t =>
      simp only [flUs] at e
      cases e1 : flU u with
      | none => rw [e1] at e; cases e
      | some v =>
        cases e2 : flUs us with
        | none => rw [e1, e2] at e; cases e
        | some vs =>
          rw [e1, e2] at e
          cases e
          obtain ⟨a1, a2⟩ := flU_ok h e1
          obtain ⟨b1, b2⟩ := flUs_ok t e2
          subst a1 b1
          exact ⟨rfl, by simp [a2, b2]⟩
def idxV (y : V) : List V → Option Nat
  | [] => none
  | z :: zs => if eqV z y then some 0 else (idxV y zs).map (· + 1)
theorem idxV_ok {y : V} : ∀ {zs : List V} {j : Nat}, idxV y zs = some j → (∃ z, zs[j]? = some z ∧ eqV z y = true) ∧ ∀ (m : Nat) (z' : V), m < j → zs[m]? = some z' → eqV z' y = false
  | [], j, e => by cases e
  | z :: zs, j, e => by
    simp only [idxV] at e
    by_cases h : eqV z y = true
    · rw [if_pos h] at e
      cases e
      exact ⟨⟨z, rfl, h⟩, fun m z' hm => by omega⟩
    · rw [if_neg h] at e
      cases e2 : idxV y zs with
      | none => rw [e2] at e; cases e
      | some i =>
        rw [e2] at e
        cases e
        obtain ⟨⟨w, a1, a2⟩, b⟩ := idxV_ok e2
        refine ⟨⟨w, by simpa using a1, a2⟩, fun m z' hm hz => ?_⟩
        cases m with
        | zero =>
          simp at hz
          subst hz
          simpa using h
        | succ m => exact b m z' (by have h2 : m + 1 < i + 1 := hm; omega) (by simpa using hz)
def gIndex (u : U) (us : List U) (μ : Mem) : Res U := match lstU μ u, us with
  | some xs, [w] => match flUs xs, flU w with
    | some vs, some y => match idxV y vs with
      | some j => .ok (.int (j : Nat)) μ
      | none => .bad
    | _, _ => .bad
  | _, _ => .bad
theorem gs_index : MtS X W "list.index" gIndex := by
  intro ρ μ σ H u us x vs Q hm ru rus h
  unfold gIndex at h
  split at h
  · rename_i xs w e1
    split at h
    · rename_i ws y e2 e3
      split at h
      · rename_i j e4
        obtain ⟨a, zs, rfl, hs, rr⟩ := lstU_ok hm ru e1
        cases rus with
        | cons r1 r2 =>
          cases r2
          obtain ⟨p1, p2⟩ := flU_ok r1 e3
          obtain ⟨q1, q2⟩ := flUs_ok rr e2
          subst p1 q1
          obtain ⟨⟨z, a1, a2⟩, a3⟩ := idxV_ok e4
          exact ⟨_, mt_index, a, _, _, j, z, rfl, rfl, hs, p2, q2, a1, a2, a3, h.ok (Stp.refl hm) .int⟩
      · exact h.elim
    · exact h.elim
  · exact h.elim
/-! ### list.insert -/
def gInsert (u : U) (us : List U) (μ : Mem) : Res U := match u, us with
  | .ref i, [.int n, w] => match μ[i]? with
    | some (.lst xs) => if xs.length < lim ∧ 0 ≤ n ∧ n < 2 ^ 62 then .ok .non (μ.set i (.lst (xs.take n.toNat ++ [w] ++ xs.drop n.toNat))) else .bad
    | _ => .bad
  | _, _ => .bad
theorem gs_insert : MtS X W "list.insert" gInsert := by
  intro ρ μ σ H u us x vs Q hm ru rus h
  unfold gInsert at h
  split at h
  · split at h
    · rename_i e
      split at h
      · rename_i hc
        cases ru with
        | ref hr =>
          cases rus with
          | cons r1 r2 =>
            cases r1
            cases r2 with
            | cons r1 r2 =>
              cases r2
              obtain ⟨ws, q, rr⟩ := lst_of hm hr e
              exact ⟨_, mt_insert, _, ws, _, _, rfl, rfl, q, by rw [← rr.length]; exact lim_lt hc.1, hc.2.1, by have := hc.2.2; omega, h.ok (putL hm hr e (((rr.take _).append (.one r1)).append (rr.drop _))) .non⟩
      · exact h.elim
    · exact h.elim
  · exact h.elim
end
end Dg
/-! Dg14: walks over dicts (locked meanwhile), dict.get. -/
namespace Dg
open PySem PySem.Spec PyProof.Rows L2 RZ
def kU : Key → U
  | .inl i => .int i
  | .inr x => .str x
section
variable {X : Cx} {W : WX} {k : Nat}
/-! ### locks -/
theorem TV.lock {H : Hp} {d : Addr} {u v : HO} (h : H d = some u) (hs : Sft u) : TV H (upd H d v) := (TX.put fun o' r => by rw [h] at r; cases r; exact hs).tv
theorem TV.unlock {H : Hp} {d : Addr} {o : Obj} {u v : HO} (h : H d = some (.frz o u)) (h1 : ∀ xs, u ≠ .tup xs) (h2 : ∀ xs, u ≠ .lst xs) : TV H (upd H d v) := ⟨fun a xs r => by
  rcases r with r | ⟨z, r⟩
  · have ne : a ≠ d := fun e => by rw [e, h] at r; cases r
    exact .inl (by rw [upd_ne ne]; exact r)
  · have ne : a ≠ d := fun e => by rw [e, h] at r; cases r; exact h1 _ rfl
    exact .inr ⟨z, by rw [upd_ne ne]; exact r⟩, fun a z u r => by
  have ne : a ≠ d := fun e => by rw [e, h] at r; cases r; exact h2 _ rfl
  rw [upd_ne ne]; exact r⟩
/-- from before a lock to behind it -/
theorem TX.across {H H' : Hp} {d : Addr} {o : Obj} {u : HO} (h0 : H d = some u) (hs : Sft u) (t : TX (upd H d (.frz o u)) H') (h1 : H' d = some (.frz o u)) (v : HO) : TX H (upd H' d v) := ⟨fun a xs r => by
  have ne : a ≠ d := fun e => by
    rcases r with r | ⟨z, r⟩
    · rw [e, h0] at r; cases r; exact hs.1 _ rfl
    · rw [e, h0] at r; cases r; exact hs.2 _ _ rfl
  have r2 : Rd (upd H d (.frz o u)) a (.tup xs) := by
    rcases r with r | ⟨z, r⟩
    · exact .inl (by rw [upd_ne ne]; exact r)
    · exact .inr ⟨z, by rw [upd_ne ne]; exact r⟩
  rcases t.1 a xs r2 with r | ⟨z, r⟩
  · exact .inl (by rw [upd_ne ne]; exact r)
  · exact .inr ⟨z, by rw [upd_ne ne]; exact r⟩, fun a z w r => by
  have ne : a ≠ d := fun e => by rw [e, h0] at r; cases r; exact hs.2 _ _ rfl
  rw [upd_ne ne]
  exact t.2 a z w (by rw [upd_ne ne]; exact r)⟩
theorem TX.into {H H' : Hp} {d : Addr} {o : Obj} {u : HO} (h0 : H d = some u) (hs : Sft u) (t : TX (upd H d (.frz o u)) H') : TX H H' := ⟨fun a xs r => by
  have ne : a ≠ d := fun e => by
    rcases r with r | ⟨z, r⟩
    · rw [e, h0] at r; cases r; exact hs.1 _ rfl
    · rw [e, h0] at r; cases r; exact hs.2 _ _ rfl
  refine t.1 a xs ?_
  rcases r with r | ⟨z, r⟩
  · exact .inl (by rw [upd_ne ne]; exact r)
  · exact .inr ⟨z, by rw [upd_ne ne]; exact r⟩, fun a z w r => by
  have ne : a ≠ d := fun e => by rw [e, h0] at r; cases r; exact hs.2 _ _ rfl
  exact t.2 a z w (by rw [upd_ne ne]; exact r)⟩
def lkC : Cell → Option Cell
  | .dct kus => some (.fdc kus)
  | _ => none
def ulC : Cell → Option Cell
  | .fdc kus => some (.dct kus)
  | _ => none
def ulM (r : Nat) (μ : Mem) : Option Mem := match μ[r]? with
  | some c => match ulC c with
    | some c' => some (μ.set r c')
    | none => none
  | none => none
def ulO (r : Nat) (o : Out) : Out := match o with
  | .nx s μ => match ulM r μ with
    | some μ' => .nx s μ'
    | none => .bad
  | .rt u μ => match ulM r μ with
    | some μ' => .rt u μ'
    | none => .bad
  | .bk s μ => match ulM r μ with
    | some μ' => .bk s μ'
    | none => .bad
  | .ct s μ => match ulM r μ with
    | some μ' => .ct s μ'
    | none => .bad
  | .ex c s μ => .ex c s μ
  | .bad => .bad
/-- the statement, while the dict that e names is locked -/
def sLock (e : FE) (b : FS) : FS := fun s μ => match e s μ with
  | .ok (.ref r) _ => match μ[r]? with
    | some c => match lkC c with
      | some c' => ulO r (b s (μ.set r c'))
      | none => b s μ
    | none => b s μ
  | _ => b s μ
theorem ulM_ok {K : PySem.W.Frag} {H H' : Hp} {ρ ρ' : List Addr} {μ' μ2 : Mem} {r : Nat} {d : Addr} {o : Obj} {u : HO} {kvs0 : List (Key × V)} (hu : u = .dK kvs0) (h0 : H d = some u) (hr : ρ[r]? = some d)
    (t : Stp K ρ (upd H d (.frz o u)) ρ' H' μ') (h1 : H' d = some (.frz o u)) (e : ulM r μ' = some μ2) : Stp K ρ H ρ' (upd H' d u) μ2 ∧ TV H' (upd H' d u) := by
  subst hu
  have tv : TV H' (upd H' d (.dK kvs0)) := TV.unlock h1 (fun _ => by simp) (fun _ => by simp)
  refine ⟨⟨t.ext, TX.across h0 (by simp [Sft]) t.tx h1 _, ?_⟩, tv⟩
  unfold ulM at e
  cases ec : μ'[r]? with
  | none => rw [ec] at e; cases e
  | some c =>
    rw [ec] at e
    cases c with
    | fdc kus =>
      cases e
      obtain ⟨o', kvs, q1, q2, q3⟩ := t.mem.get (t.ext.get hr) ec
      rw [h1] at q1
      cases q1
      exact t.mem.putV tv (t.ext.get hr) ⟨_, upd_same, q2, q3.monoV tv (Ext.refl _)⟩
    | _ => cases e
theorem cs_lock {st : Stmt} {e : FE} {m : FS} (h : CS X W st m) : CS X W st (sLock e m) := by
  intro ρ μ s σ H D hs hm p
  unfold sLock at p
  have plain : PostS X W ρ H (m s μ) D → WS X st D σ H := h ρ μ s σ H D hs hm
  split at p
  · rename_i r μ1 _
    split at p
    · rename_i c ec
      split at p
      · rename_i c' el
        cases c with
        | dct kus =>
          cases el
          have hlt : r < ρ.length := by rw [hm.len]; exact (List.getElem?_eq_some_iff.mp ec).1
          have hr : ρ[r]? = some ρ[r] := List.getElem?_eq_getElem hlt
          obtain ⟨kvs, q1, q2, q3⟩ := hm.get hr ec
          refine ⟨_, ps_lock ps_w, ρ[r], .dK kvs, q1, trivial, fun od => ?_⟩
          have tv : TV H (upd H ρ[r] (.frz od (.dK kvs))) := TV.lock q1 (by simp [Sft])
          have hm' : RepM X.K (upd H ρ[r] (.frz od (.dK kvs))) ρ (μ.set r (.fdc kus)) := hm.putV tv hr ⟨od, kvs, upd_same, q2, q3.monoV tv (Ext.refl _)⟩
          have hs' : RepS X.K (upd H ρ[r] (.frz od (.dK kvs))) ρ s σ := ⟨hs.len, fun i u e => by obtain ⟨v, a1, a2⟩ := hs.get i u e; exact ⟨v, a1, a2.monoV tv (Ext.refl _)⟩⟩
          refine h ρ (μ.set r (.fdc kus)) s σ _ _ hs' hm' ?_
          have frz : ∀ {ρ' H' μ'}, Stp X.K ρ (upd H ρ[r] (.frz od (.dK kvs))) ρ' H' μ' → H' ρ[r] = some (.frz od (.dK kvs)) := fun t => t.tx.2 _ _ _ upd_same
          cases eo : m s (μ.set r (.fdc kus)) with
          | nx s1 m1 =>
            rw [eo] at p
            intro σ' H' ρ' t rs
            refine ⟨frz t, ?_⟩
            simp only [ulO] at p
            split at p
            · rename_i m2 e2
              obtain ⟨t2, tv2⟩ := ulM_ok rfl q1 hr t (frz t) e2
              exact p σ' _ ρ' t2 ⟨rs.len, fun i u e => by obtain ⟨v, a1, a2⟩ := rs.get i u e; exact ⟨v, a1, a2.monoV tv2 (Ext.refl _)⟩⟩
            · exact p.elim
          | rt u m1 =>
            rw [eo] at p
            intro v H' ρ' t rv
            refine ⟨frz t, ?_⟩
            simp only [ulO] at p
            split at p
            · rename_i m2 e2
              obtain ⟨t2, tv2⟩ := ulM_ok rfl q1 hr t (frz t) e2
              exact p v _ ρ' t2 (rv.monoV tv2 (Ext.refl _))
            · exact p.elim
          | bk s1 m1 =>
            rw [eo] at p
            intro σ' H' ρ' t rs
            refine ⟨frz t, ?_⟩
            simp only [ulO] at p
            split at p
            · rename_i m2 e2
              obtain ⟨t2, tv2⟩ := ulM_ok rfl q1 hr t (frz t) e2
              exact p σ' _ ρ' t2 ⟨rs.len, fun i u e => by obtain ⟨v, a1, a2⟩ := rs.get i u e; exact ⟨v, a1, a2.monoV tv2 (Ext.refl _)⟩⟩
            · exact p.elim
          | ct s1 m1 =>
            rw [eo] at p
            intro σ' H' ρ' t rs
            refine ⟨frz t, ?_⟩
            simp only [ulO] at p
            split at p
            · rename_i m2 e2
              obtain ⟨t2, tv2⟩ := ulM_ok rfl q1 hr t (frz t) e2
              exact p σ' _ ρ' t2 ⟨rs.len, fun i u e => by obtain ⟨v, a1, a2⟩ := rs.get i u e; exact ⟨v, a1, a2.monoV tv2 (Ext.refl _)⟩⟩
            · exact p.elim
          | ex c2 s1 m1 =>
            rw [eo] at p
            intro cls σ' H' ρ' t rs em
            exact p cls σ' H' ρ' ⟨t.ext, TX.into q1 (by simp [Sft]) t.tx, t.mem⟩ rs em
          | bad => rw [eo] at p; exact p.elim
        | _ => cases el
      · exact plain p
    · exact plain p
  · exact plain p
/-- an expression, while the dict that e names is locked -/
def ulR (r : Nat) (o : Res U) : Res U := match o with
  | .ok u μ => match ulM r μ with
    | some μ' => .ok u μ'
    | none => .bad
  | .ex c μ => .ex c μ
  | .bad => .bad
def fLock (e : FE) (b : FE) : FE := fun s μ => match e s μ with
  | .ok (.ref r) _ => match μ[r]? with
    | some c => match lkC c with
      | some c' => ulR r (b s (μ.set r c'))
      | none => b s μ
    | none => b s μ
  | _ => b s μ
theorem ce_lock {x : Expr} {e : FE} {m : FE} (h : CE X W x m) : CE X W x (fLock e m) := by
  intro ρ μ s σ H Q hs hm p
  unfold fLock at p
  have plain : Post X W σ relV ρ H (m s μ) Q → WE X x σ H Q := h ρ μ s σ H Q hs hm
  split at p
  · rename_i r μ1 _
    split at p
    · rename_i c ec
      split at p
      · rename_i c' el
        cases c with
        | dct kus =>
          cases el
          have hlt : r < ρ.length := by rw [hm.len]; exact (List.getElem?_eq_some_iff.mp ec).1
          have hr : ρ[r]? = some ρ[r] := List.getElem?_eq_getElem hlt
          obtain ⟨kvs, q1, q2, q3⟩ := hm.get hr ec
          refine ⟨_, pe_lock pe_w, ρ[r], .dK kvs, q1, trivial, fun od => ?_⟩
          have tv : TV H (upd H ρ[r] (.frz od (.dK kvs))) := TV.lock q1 (by simp [Sft])
          have hm' : RepM X.K (upd H ρ[r] (.frz od (.dK kvs))) ρ (μ.set r (.fdc kus)) := hm.putV tv hr ⟨od, kvs, upd_same, q2, q3.monoV tv (Ext.refl _)⟩
          have hs' : RepS X.K (upd H ρ[r] (.frz od (.dK kvs))) ρ s σ := ⟨hs.len, fun i u e => by obtain ⟨v, a1, a2⟩ := hs.get i u e; exact ⟨v, a1, a2.monoV tv (Ext.refl _)⟩⟩
          refine h ρ (μ.set r (.fdc kus)) s σ _ _ hs' hm' ?_
          have frz : ∀ {ρ' H' μ'}, Stp X.K ρ (upd H ρ[r] (.frz od (.dK kvs))) ρ' H' μ' → H' ρ[r] = some (.frz od (.dK kvs)) := fun t => t.tx.2 _ _ _ upd_same
          cases eo : m s (μ.set r (.fdc kus)) with
          | ok u m1 =>
            rw [eo] at p
            intro v H' ρ' t rv
            refine ⟨frz t, ?_⟩
            simp only [ulR] at p
            split at p
            · rename_i m2 e2
              obtain ⟨t2, tv2⟩ := ulM_ok rfl q1 hr t (frz t) e2
              exact p v _ ρ' t2 (RepV.monoV tv2 (Ext.refl _) rv)
            · exact p.elim
          | ex c2 m1 =>
            rw [eo] at p
            intro cls H' ρ' t em
            exact p cls H' ρ' ⟨t.ext, TX.into q1 (by simp [Sft]) t.tx, t.mem⟩ em
          | bad => rw [eo] at p; exact p.elim
        | _ => cases el
      · exact plain p
    · exact plain p
  · exact plain p
/-! ### walks of a locked dict -/
def fdcU (μ : Mem) : U → Option (List (Key × U))
  | .ref r => match μ[r]? with
    | some (.fdc kus) => some kus
    | some (.dct _) => none
    | some (.lst _) => none
    | some (.dtt _) => none
    | some (.fdt _) => none
    | some (.obj _ _) => none
    | none => none
  | _ => none
theorem fdcU_ok {K : PySem.W.Frag} {H : Hp} {ρ : List Addr} {μ : Mem} (hm : RepM K H ρ μ) {u : U} {v : V} {kus : List (Key × U)} (r : RepV K H ρ u v) (e : fdcU μ u = some kus) : ∃ a o kvs, v = .ref a ∧ H a = some (.frz o (.dK kvs)) ∧ kvs.map (·.1) = kus.map (·.1) ∧ RepVs K H ρ (kus.map (·.2)) (kvs.map (·.2)) := by
  cases r with
  | ref hr =>
    obtain ⟨c, hc, rc⟩ := hm.at hr
    simp only [fdcU, hc] at e
    cases c with
    | fdc us => cases e; obtain ⟨o, kvs, a, b, c⟩ := rc; exact ⟨_, o, kvs, rfl, a, b, c⟩
    | _ => cases e
  | _ => cases e
theorem kv_at {K : PySem.W.Frag} {H : Hp} {ρ : List Addr} {kus : List (Key × U)} {kvs : List (Key × V)} (h : kvs.map (·.1) = kus.map (·.1)) (r : RepVs K H ρ (kus.map (·.2)) (kvs.map (·.2))) {i : Nat} {k : Key} {v : V} (e : kvs[i]? = some (k, v)) : ∃ u, kus[i]? = some (k, u) ∧ RepV K H ρ u v := by
  have hl : kvs.length = kus.length := by simpa using congrArg List.length h
  have hi : i < kus.length := by rw [← hl]; exact (List.getElem?_eq_some_iff.mp e).1
  have e1 : (kus.map (·.1))[i]? = some k := by rw [← h, List.getElem?_map, e]; rfl
  rw [List.getElem?_map, List.getElem?_eq_getElem hi] at e1
  have e2 : (kus.map (·.2))[i]? = some kus[i].2 := by rw [List.getElem?_map, List.getElem?_eq_getElem hi]; rfl
  obtain ⟨v', a1, a2⟩ := r.get e2
  rw [List.getElem?_map, e] at a1
  cases a1
  simp at e1
  exact ⟨kus[i].2, by rw [List.getElem?_eq_getElem hi, ← e1], a2⟩
theorem rep_kU {K : PySem.W.Frag} {H : Hp} {ρ : List Addr} {k : Key} (hk : keyOk k = true) : RepV K H ρ (kU k) (kV k) := by
  cases k with
  | inl i => exact .int
  | inr x => exact .str hk
def itemsU (kus : List (Key × U)) : List U := kus.map fun p => .tup [kU p.1, p.2]
def keysU (kus : List (Key × U)) : List U := kus.map fun p => kU p.1
def valsU (kus : List (Key × U)) : List U := kus.map fun p => p.2
def ksOk (kus : List (Key × U)) : Bool := kus.all fun p => keyOk p.1
theorem it_items {K : PySem.W.Frag} {H : Hp} {ρ : List Addr} {d : Addr} {o : Obj} {kvs : List (Key × V)} {kus : List (Key × U)} (hd : H d = some (.frz o (.dK kvs))) (hk : kvs.map (·.1) = kus.map (·.1)) (hr : RepVs K H ρ (kus.map (·.2)) (kvs.map (·.2))) (ok : ksOk kus = true) :
    ItOk K ρ H (.seq (itemsU kus)) (Iti d o kvs) := by
  intro i ρ' H' μ' ex tx hm
  simp only [itemAt]
  have hl : kvs.length = kus.length := by simpa using congrArg List.length hk
  have hd' := tx.2 _ _ _ hd
  have hr' := hr.mono tx ex
  by_cases hi : i < kus.length
  · have e : (itemsU kus)[i]? = some (.tup [kU kus[i].1, kus[i].2]) := by simp [itemsU, hi]
    rw [e]
    refine ⟨⟨hd', by omega⟩, ?_⟩
    rintro x H'' ⟨T, k, v, q1, rfl, q2, rfl⟩
    obtain ⟨u, a1, a2⟩ := kv_at hk hr' q1
    rw [List.getElem?_eq_getElem hi] at a1
    have a3 : kus[i] = (k, u) := Option.some.inj a1
    have ek : keyOk k = true := by
      have := List.all_eq_true.mp ok kus[i] (List.getElem_mem hi)
      rw [a3] at this
      exact this
    rw [a3]
    exact ⟨Stp.temp hm q2, newT q2 (.cons (rep_kU ek) (.one a2))⟩
  · have e : (itemsU kus)[i]? = none := by simp [itemsU]; omega
    rw [e]
    exact ⟨hd', by omega⟩
theorem it_keys {K : PySem.W.Frag} {H : Hp} {ρ : List Addr} {d : Addr} {o : Obj} {kvs : List (Key × V)} {kus : List (Key × U)} (hd : H d = some (.frz o (.dK kvs))) (hk : kvs.map (·.1) = kus.map (·.1)) (hr : RepVs K H ρ (kus.map (·.2)) (kvs.map (·.2))) (ok : ksOk kus = true) :
    ItOk K ρ H (.seq (keysU kus)) (Itk d o kvs) := by
  intro i ρ' H' μ' ex tx hm
  simp only [itemAt]
  have hl : kvs.length = kus.length := by simpa using congrArg List.length hk
  have hd' := tx.2 _ _ _ hd
  have hr' := hr.mono tx ex
  by_cases hi : i < kus.length
  · have e : (keysU kus)[i]? = some (kU kus[i].1) := by simp [keysU, hi]
    rw [e]
    refine ⟨⟨hd', by omega⟩, ?_⟩
    rintro x H'' ⟨rfl, k, v, q1, rfl⟩
    obtain ⟨u, a1, a2⟩ := kv_at hk hr' q1
    rw [List.getElem?_eq_getElem hi] at a1
    have a3 : kus[i] = (k, u) := Option.some.inj a1
    have ek : keyOk k = true := by
      have := List.all_eq_true.mp ok kus[i] (List.getElem_mem hi)
      rw [a3] at this
      exact this
    rw [a3]
    exact ⟨Stp.refl hm, rep_kU ek⟩
  · have e : (keysU kus)[i]? = none := by simp [keysU]; omega
    rw [e]
    exact ⟨hd', by omega⟩
theorem it_vals {K : PySem.W.Frag} {H : Hp} {ρ : List Addr} {d : Addr} {o : Obj} {kvs : List (Key × V)} {kus : List (Key × U)} (hd : H d = some (.frz o (.dK kvs))) (hk : kvs.map (·.1) = kus.map (·.1)) (hr : RepVs K H ρ (kus.map (·.2)) (kvs.map (·.2))) :
    ItOk K ρ H (.seq (valsU kus)) (Itd d o kvs) := by
  intro i ρ' H' μ' ex tx hm
  simp only [itemAt]
  have hl : kvs.length = kus.length := by simpa using congrArg List.length hk
  have hd' := tx.2 _ _ _ hd
  have hr' := hr.mono tx ex
  by_cases hi : i < kus.length
  · have e : (valsU kus)[i]? = some (kus[i].2) := by simp [valsU, hi]
    rw [e]
    refine ⟨⟨hd', by omega⟩, ?_⟩
    rintro x H'' ⟨rfl, k, q1⟩
    obtain ⟨u, a1, a2⟩ := kv_at hk hr' q1
    rw [List.getElem?_eq_getElem hi] at a1
    have a3 : kus[i] = (k, u) := Option.some.inj a1
    rw [a3]
    exact ⟨Stp.refl hm, a2⟩
  · have e : (valsU kus)[i]? = none := by simp [valsU]; omega
    rw [e]
    exact ⟨hd', by omega⟩
def iItems (a : FE) : FI := fun s μ => (a s μ).bind fun u μ1 => match fdcU μ1 u with
  | some kus => if ksOk kus = true then .ok (.seq (itemsU kus)) μ1 else .bad
  | none => .bad
theorem ci_items {e : Expr} {me : FE} {apos cpos tpos : Pos} {elts : List Expr} {kk : Nat} (he : CE X W e me) (hbase : attributeBase e "items" X.env (eval e X.env) = eval e X.env := by rfl) (hline : (apos.endLine == cpos.line) = true := by rfl) :
    CI X W (.Tuple elts kk tpos) (.Call (.Attribute e "items" apos) [] [] cpos) (Dg.iItems me) := by
  intro ρ μ s σ H R hs hm h
  refine ⟨_, pi_items pe_w hbase hline, ?_⟩
  refine he ρ μ s σ H _ hs hm (h.bind fun u μ1 x H1 ρ1 t1 r1 h1 => ?_)
  split at h1
  · rename_i kus ek
    split at h1
    · rename_i ok
      obtain ⟨a, o, kvs, rfl, q1, q2, q3⟩ := fdcU_ok t1.mem r1 ek
      exact ⟨a, o, kvs, rfl, q1, h1.ok (Stp.refl t1.mem) (it_items q1 q2 q3 ok)⟩
    · exact h1.elim
  · exact h1.elim
def iVals (a : FE) : FI := fun s μ => (a s μ).bind fun u μ1 => match fdcU μ1 u with
  | some kus => .ok (.seq (valsU kus)) μ1
  | none => .bad
theorem ci_vals {tg e : Expr} {me : FE} {apos cpos : Pos} (he : CE X W e me) (hbase : attributeBase e "values" X.env (eval e X.env) = eval e X.env := by rfl) (hline : (apos.endLine == cpos.line) = true := by rfl) :
    CI X W tg (.Call (.Attribute e "values" apos) [] [] cpos) (Dg.iVals me) := by
  intro ρ μ s σ H R hs hm h
  refine ⟨_, pi_values pe_w hbase hline, ?_⟩
  refine he ρ μ s σ H _ hs hm (h.bind fun u μ1 x H1 ρ1 t1 r1 h1 => ?_)
  split at h1
  · rename_i kus ek
    obtain ⟨a, o, kvs, rfl, q1, q2, q3⟩ := fdcU_ok t1.mem r1 ek
    exact ⟨a, o, kvs, rfl, q1, h1.ok (Stp.refl t1.mem) (it_vals q1 q2 q3)⟩
  · exact h1.elim
/-- for k in d -/
def iKeys (a : FE) : FI := fun s μ => (a s μ).bind fun u μ1 => match fdcU μ1 u with
  | some kus => if ksOk kus = true then .ok (.seq (keysU kus)) μ1 else .bad
  | none => .bad
theorem ci_keys {tg e : Expr} {me : FE} (he : CE X W e me) : CI X W tg e (Dg.iKeys me) := by
  intro ρ μ s σ H R hs hm h
  refine ⟨_, pi_keys pe_w, ?_⟩
  refine he ρ μ s σ H _ hs hm (h.bind fun u μ1 x H1 ρ1 t1 r1 h1 => ?_)
  split at h1
  · rename_i kus ek
    split at h1
    · rename_i ok
      obtain ⟨a, o, kvs, rfl, q1, q2, q3⟩ := fdcU_ok t1.mem r1 ek
      exact ⟨a, o, rfl, .inl ⟨kvs, q1, h1.ok (Stp.refl t1.mem) (it_keys q1 q2 q3 ok)⟩⟩
    · exact h1.elim
  · exact h1.elim
/-! ### d.get(k, x) -/
def rdU (μ : Mem) : U → Option (List (Key × U))
  | .ref r => match μ[r]? with
    | some (.fdc kus) => some kus
    | some (.dct kus) => some kus
    | some (.lst _) => none
    | some (.dtt _) => none
    | some (.fdt _) => none
    | some (.obj _ _) => none
    | none => none
  | _ => none
theorem rdU_ok {K : PySem.W.Frag} {H : Hp} {ρ : List Addr} {μ : Mem} (hm : RepM K H ρ μ) {u : U} {v : V} {kus : List (Key × U)} (r : RepV K H ρ u v) (e : rdU μ u = some kus) : ∃ a kvs, v = .ref a ∧ Rd H a (.dK kvs) ∧ RepKV K H ρ kus kvs := by
  cases r with
  | ref hr =>
    obtain ⟨c, hc, rc⟩ := hm.at hr
    simp only [rdU, hc] at e
    cases c with
    | fdc us => cases e; obtain ⟨o, kvs, a, b, c⟩ := rc; exact ⟨_, kvs, rfl, .inr ⟨o, a⟩, b, c⟩
    | dct us => cases e; obtain ⟨kvs, a, b, c⟩ := rc; exact ⟨_, kvs, rfl, .inl a, b, c⟩
    | _ => cases e
  | _ => cases e
def fGet (d a b : FE) : FE := fun s μ => (d s μ).bind fun x μ1 => match rdU μ1 x with
  | none => .bad
  | some _ => (a s μ1).bind fun y μ2 => (b s μ2).bind fun z μ3 => match rdU μ3 x, keyU y with
    | some kus, some k => .ok ((valU kus k).getD z) μ3
    | _, _ => .bad
theorem ce_get {d e f : Expr} {md me mf : FE} {apos cpos : Pos} (G : Good X W (k + 40)) (hd : CE X W d md) (he : CE X W e me) (hf : CE X W f mf) (m : M2 X d "get" apos e f cpos) :
    CE X W (.Call (.Attribute d "get" apos) [e, f] [] cpos) (fGet md me mf) := by
  intro ρ μ s σ H Q hs hm h
  refine ⟨_, pe_dget2 G.hu pe_w pe_w pe_w m, ?_⟩
  refine hd ρ μ s σ H _ hs hm (h.bind fun x μ1 xv H1 ρ1 t1 r1 h1 => ?_)
  cases ex : rdU μ1 x with
  | none => rw [ex] at h1; exact h1.elim
  | some kus0 =>
    rw [ex] at h1
    obtain ⟨a, kvs, rfl, q1, _⟩ := rdU_ok t1.mem r1 ex
    refine ⟨a, rfl, ?_, ?_⟩
    · exact .inl ⟨kvs, q1⟩
    · refine he ρ1 μ1 s σ H1 _ (t1.s hs) t1.mem (h1.bind fun y μ2 yv H2 ρ2 t2 r2 h2 => ?_)
      refine hf ρ2 μ2 s σ H2 _ (t2.s (t1.s hs)) t2.mem (h2.bind fun z μ3 zv H3 ρ3 t3 r3 h3 => ?_)
      split at h3
      · rename_i kus k' e1 e2
        obtain ⟨a', kvs', ea, q2, rk⟩ := rdU_ok t3.mem (t3.v (t2.v r1)) e1
        cases ea
        refine ⟨valV kvs' k', .inl ⟨kvs', k', q2, keyU_ok (t3.v r2) e2, rfl⟩, ?_⟩
        have hv := rk.val (k := k')
        cases ev : valU kus k' with
        | none =>
          rw [ev] at h3
          rw [hv.2 ev]
          exact h3.ok (Stp.refl t3.mem) r3
        | some u =>
          rw [ev] at h3
          obtain ⟨v, b1, b2⟩ := hv.1 u ev
          rw [b1]
          exact h3.ok (Stp.refl t3.mem) b2
      · exact h3.elim
end
end Dg
namespace Lw
open PySem PySem.Spec PyProof.Rows L2 RZ Dg
/-! ### the text by places -/
def top (i : Nat) : Stmt := PySem.Challenge.pw_doppelganger_k26_machines_checked.main.body.getD i (.Pass ⟨0, 0, 0, 0⟩)
abbrev s_are_moves : Stmt := top 9
abbrev N_are_moves : List Str := ["entry", "letters", "states", "target"]
theorem sc_are_moves : FnScope N_are_moves ["entry", "letters", "states"] (defScope s_are_moves) := ⟨rfl, rfl, rfl, by decide +kernel, rfl, by decide +kernel, by decide +kernel⟩
abbrev s_check_machine : Stmt := top 10
abbrev N_check_machine : List Str := ["machine", "letters", "moves", "accepting", "entry"]
theorem sc_check_machine : FnScope N_check_machine ["machine"] (defScope s_check_machine) := ⟨rfl, rfl, rfl, by decide +kernel, rfl, by decide +kernel, by decide +kernel⟩
abbrev s_accepts : Stmt := top 11
abbrev N_accepts : List Str := ["machine", "word", "letters", "moves", "accepting", "state", "letter"]
theorem sc_accepts : FnScope N_accepts ["machine", "word"] (defScope s_accepts) := ⟨rfl, rfl, rfl, by decide +kernel, rfl, by decide +kernel, by decide +kernel⟩
abbrev s_ways_of : Stmt := top 12
abbrev N_ways_of : List Str := ["entry", "found", "target"]
theorem sc_ways_of : FnScope N_ways_of ["entry"] (defScope s_ways_of) := ⟨rfl, rfl, rfl, by decide +kernel, rfl, by decide +kernel, by decide +kernel⟩
abbrev s_counts_behind : Stmt := top 13
abbrev N_counts_behind : List Str := ["counts", "ways", "found", "state", "count", "target", "many"]
theorem sc_counts_behind : FnScope N_counts_behind ["counts", "ways"] (defScope s_counts_behind) := ⟨rfl, rfl, rfl, by decide +kernel, rfl, by decide +kernel, by decide +kernel⟩
abbrev s_count_words : Stmt := top 14
abbrev N_count_words : List Str := ["machine", "length", "_", "moves", "accepting", "ways", "counts", "entry", "state", "count"]
theorem sc_count_words : FnScope N_count_words ["machine", "length"] (defScope s_count_words) := ⟨rfl, rfl, rfl, by decide +kernel, rfl, by decide +kernel, by decide +kernel⟩
abbrev s__law_numbers : Stmt := top 16
abbrev N__law_numbers : List Str := ["script", "many", "numbers", "k", "cell", "j", "mixed", "base", "last"]
theorem sc__law_numbers : FnScope N__law_numbers ["script", "many"] (defScope s__law_numbers) := ⟨rfl, rfl, rfl, by decide +kernel, rfl, by decide +kernel, by decide +kernel⟩
abbrev s__law_machine : Stmt := top 17
abbrev N__law_machine : List Str := ["numbers", "at", "letters", "states", "gaps", "moves", "accepting", "state", "row", "letter", "number", "target"]
theorem sc__law_machine : FnScope N__law_machine ["numbers", "at", "letters", "states", "gaps"] (defScope s__law_machine) := ⟨rfl, rfl, rfl, by decide +kernel, rfl, by decide +kernel, by decide +kernel⟩
abbrev s__law_refused : Stmt := top 18
abbrev N__law_refused : List Str := ["machine", "e"]
theorem sc__law_refused : FnScope N__law_refused ["machine"] (defScope s__law_refused) := ⟨rfl, rfl, rfl, by decide +kernel, rfl, by decide +kernel, by decide +kernel⟩
abbrev s__law_bad : Stmt := top 19
abbrev N__law_bad : List Str := ["machine", "number", "letters", "moves", "accepting", "rows", "row", "k"]
theorem sc__law_bad : FnScope N__law_bad ["machine", "number"] (defScope s__law_bad) := ⟨rfl, rfl, rfl, by decide +kernel, rfl, by decide +kernel, by decide +kernel⟩
abbrev s__law_accepts : Stmt := top 20
abbrev N__law_accepts : List Str := ["machine", "word", "state", "letter"]
theorem sc__law_accepts : FnScope N__law_accepts ["machine", "word"] (defScope s__law_accepts) := ⟨rfl, rfl, rfl, by decide +kernel, rfl, by decide +kernel, by decide +kernel⟩
abbrev s__law_count : Stmt := top 21
abbrev N__law_count : List Str := ["machine", "length", "ways", "k", "after", "state", "target"]
theorem sc__law_count : FnScope N__law_count ["machine", "length"] (defScope s__law_count) := ⟨rfl, rfl, rfl, by decide +kernel, rfl, by decide +kernel, by decide +kernel⟩
abbrev s__law_lengths : Stmt := top 22
abbrev N__law_lengths : List Str := ["machine", "count", "length"]
theorem sc__law_lengths : FnScope N__law_lengths ["machine"] (defScope s__law_lengths) := ⟨rfl, rfl, rfl, by decide +kernel, rfl, by decide +kernel, by decide +kernel⟩
abbrev s_law : Stmt := top 23
abbrev N_law : List Str := ["script", "numbers", "machine", "k", "word", "told", "length", "j"]
theorem sc_law : FnScope N_law ["script"] (defScope s_law) := ⟨rfl, rfl, rfl, by decide +kernel, rfl, by decide +kernel, by decide +kernel⟩
/-! ### the mirrors -/
abbrev Calls := Nat → List U → Mem → Res U
def b_are_moves (C : Calls) : FS :=
    (sRet (fAnd (fOp uEq (fCall bLen (aCons (fVar 0) aNil)) (fVar 1)) (fCall bAll (aCons (fLc (iSeq (fVar 0)) [3] (.one 3) tAll (fChain uLe uLt (fNeg (fC (.int 1))) (fVar 3) (fVar 2))) aNil))))
def b_check_machine (C : Calls) : FS :=
    (sSeq (sAsg (.tup [1, 2, 3]) (fVar 0))
    (sSeq (sIf (tNt (tstB (fChain uLe uLe (fC (.int 0)) (fVar 1) (fC (.int 200))))) (sRaise "NotAllowed" (fJs [(fC (.str "the number of letters is not from 0 to ")), (fFmt (fC (.int 200)))] Str.empty)) sNext)
    (sSeq (sIf (tstB (fOp uGt (fCall bLen (aCons (fVar 2) aNil)) (fC (.int 400)))) (sRaise "NotAllowed" (fJs [(fC (.str "there are more than ")), (fFmt (fC (.int 400))), (fC (.str " states"))] Str.empty)) sNext)
    (sSeq (sIf (tstB (fOp uNe (fCall bLen (aCons (fVar 3) aNil)) (fCall bLen (aCons (fVar 2) aNil)))) (sRaise "NotAllowed" (fC (.str "there is not one truth value for each state"))) sNext)
    (sIf (tNt (tst (fCall bAll (aCons (fLc (iSeq (fVar 2)) [4] (.one 4) tAll (fDef 3 (C 0) (aCons (fVar 4) (aCons (fVar 1) (aCons (fCall bLen (aCons (fVar 2) aNil)) aNil))))) aNil)))) (sRaise "NotAllowed" (fC (.str "the entry of a state does not fit"))) sNext)))))
def b_accepts (C : Calls) : FS :=
    (sSeq (sAsg (.tup [2, 3, 4]) (fVar 0))
    (sSeq (sAsg (.one 5) (fIf (tst (fVar 3)) (fC (.int 0)) (fNeg (fC (.int 1)))))
    (sSeq (sFor (iSeq (fVar 1)) (.one 6) (sSeq (sIf (tOr' (tstB (fOp uEq (fVar 5) (fNeg (fC (.int 1))))) (tNt (tstB (fChain uLe uLt (fC (.int 0)) (fVar 6) (fVar 2))))) (sRet (fC (.bl false))) sNext)
    (sAsg (.one 5) (fOp ixU (fOp ixU (fVar 3) (fVar 5)) (fVar 6)))))
    (sRet (fAnd (fOp uNe (fVar 5) (fNeg (fC (.int 1)))) (fOp ixU (fVar 4) (fVar 5)))))))
def b_ways_of (C : Calls) : FS :=
    (sSeq (sAsg (.one 1) fD0)
    (sSeq (sFor (iSeq (fVar 0)) (.one 2) (sIf (tstB (fOp uNe (fVar 2) (fNeg (fC (.int 1))))) (sStore (fVar 1) (fVar 2) (fOp uAdd (fGet (fVar 1) (fVar 2) (fC (.int 0))) (fC (.int 1)))) sNext))
    (sRet (fVar 1))))
def b_counts_behind (C : Calls) : FS :=
    (sSeq (sAsg (.one 2) fD0)
    (sSeq (sLock (fVar 0) (sFor (Dg.iItems (fVar 0)) (.tup [3, 4]) (sLock (fOp ixU (fVar 1) (fVar 3)) (sFor (Dg.iItems (fOp ixU (fVar 1) (fVar 3))) (.tup [5, 6]) (sStore (fVar 2) (fVar 5) (fOp uAdd (fGet (fVar 2) (fVar 5) (fC (.int 0))) (fOp uMul (fVar 4) (fVar 6))))))))
    (sRet (fVar 2))))
def b_count_words (C : Calls) : FS :=
    (sSeq (sIf (tNt (tstB (fChain uLe uLe (fC (.int 0)) (fVar 1) (fC (.int 100))))) (sRaise "NotAllowed" (fJs [(fC (.str "the length is not from 0 to ")), (fFmt (fC (.int 100)))] Str.empty)) sNext)
    (sSeq (sAsg (.tup [2, 3, 4]) (fVar 0))
    (sSeq (sAsg (.one 5) (fLc (iSeq (fVar 3)) [7] (.one 7) tAll (fDef 1 (C 3) (aCons (fVar 7) aNil))))
    (sSeq (sAsg (.one 6) (fIf (tst (fVar 3)) (fDisp [((fC (.int 0)), (fC (.int 1)))]) fD0))
    (sSeq (sFor (iRg1 (fVar 1)) (.one 2) (sAsg (.one 6) (fDef 2 (C 4) (aCons (fVar 6) (aCons (fVar 5) aNil)))))
    (sRet (fCall bSum (aCons (fLock (fVar 6) (fLc (Dg.iItems (fVar 6)) [8, 9] (.tup [8, 9]) (tst (fOp ixU (fVar 4) (fVar 8))) (fVar 9))) aNil))))))))
def b__law_numbers (C : Calls) : FS :=
    (sSeq (sAsg (.one 2) (fLst aNil))
    (sSeq (sFor (iRg1 (fCall bLen (aCons (fVar 0) aNil))) (.one 3) (sSeq (sAsg (.one 4) (fCall bAbs (aCons (fCall bInt (aCons (fOp ixU (fVar 0) (fVar 3)) aNil)) aNil)))
    (sIf (tstB (fOp uGe (fVar 4) (fOp uPow (fC (.int 10)) (fC (.int 18))))) (sFor (iRg1 (fC (.int 60))) (.one 5) (sIf (tAn (tstB (fOp uGt (fVar 4) (fC (.int 0)))) (tstB (fOp uLt (fCall bLen (aCons (fVar 2) aNil)) (fVar 1)))) (sSeq (sExpr (fMtL gAppend (fVar 2) (aCons (fOp uMod (fVar 4) (fC (.int 10007))) aNil)))
    (sAsg (.one 4) (fOp uFdiv (fVar 4) (fC (.int 10007))))) sNext)) (sIf (tstB (fOp uLt (fCall bLen (aCons (fVar 2) aNil)) (fVar 1))) (sSeq (sAsg (.one 6) (fOp uMod (fCall bInt (aCons (fOp uAdd (fOp uAdd (fOp uMul (fVar 4) (fC (.int 48271))) (fOp uMul (fVar 3) (fC (.int 69621)))) (fC (.int 11))) aNil)) (fC (.int 2147483647))))
    (sExpr (fMtL gAppend (fVar 2) (aCons (fOp uFdiv (fOp uMod (fCall bInt (aCons (fOp uAdd (fOp uAdd (fOp uMul (fVar 6) (fC (.int 16807))) (fOp uMul (fC (.int 7)) (fVar 3))) (fC (.int 3))) aNil)) (fC (.int 2147483647))) (fC (.int 3))) aNil)))) sNext))))
    (sSeq (sAsg (.one 7) (fCall bLen (aCons (fVar 2) aNil)))
    (sSeq (sAsg (.one 8) (fOp uAdd (fC (.int 5381)) (fCall bLen (aCons (fVar 0) aNil))))
    (sSeq (sFor (iRg1 (fCall bMax (aCons (fC (.int 0)) (aCons (fOp uSub (fVar 1) (fVar 7)) aNil)))) (.one 3) (sSeq (sIf (tstB (fOp uGt (fVar 7) (fC (.int 0)))) (sAsg (.one 8) (fOp uAdd (fVar 8) (fOp ixU (fVar 2) (fOp uMod (fVar 3) (fVar 7))))) sNext)
    (sSeq (sAsg (.one 8) (fOp uMod (fCall bInt (aCons (fOp uAdd (fOp uMul (fVar 8) (fC (.int 48271))) (fVar 3)) aNil)) (fC (.int 2147483647))))
    (sExpr (fMtL gAppend (fVar 2) (aCons (fOp uFdiv (fVar 8) (fC (.int 7))) aNil))))))
    (sRet (fSl (fVar 2) oNone (oSome (fVar 1)))))))))
def b__law_machine (C : Calls) : FS :=
    (sSeq (sAsg (.one 5) (fLst aNil))
    (sSeq (sAsg (.one 6) (fLst aNil))
    (sSeq (sFor (iRg1 (fVar 3)) (.one 7) (sSeq (sAsg (.one 8) (fLst aNil))
    (sSeq (sFor (iRg1 (fVar 2)) (.one 9) (sSeq (sAsg (.one 10) (fOp ixU (fVar 0) (fOp uMod (fCall bInt (aCons (fOp uAdd (fOp uAdd (fVar 1) (fOp uMul (fVar 7) (fVar 2))) (fVar 9)) aNil)) (fCall bLen (aCons (fVar 0) aNil)))))
    (sSeq (sAsg (.one 11) (fOp uMod (fOp uFdiv (fVar 10) (fC (.int 7))) (fVar 3)))
    (sSeq (sIf (tstB (fOp uLt (fOp uMod (fVar 10) (fC (.int 5))) (fVar 4))) (sAsg (.one 11) (fNeg (fC (.int 1)))) sNext)
    (sExpr (fMtL gAppend (fVar 8) (aCons (fVar 11) aNil)))))))
    (sSeq (sExpr (fMtL gAppend (fVar 5) (aCons (fCall bTuple (aCons (fVar 8) aNil)) aNil)))
    (sExpr (fMtL gAppend (fVar 6) (aCons (fOp uEq (fOp uMod (fOp uFdiv (fOp ixU (fVar 0) (fOp uMod (fCall bInt (aCons (fOp uAdd (fOp uAdd (fVar 1) (fC (.int 131))) (fVar 7)) aNil)) (fCall bLen (aCons (fVar 0) aNil)))) (fC (.int 3))) (fC (.int 3))) (fC (.int 0))) aNil)))))))
    (sRet (fTup (aCons (fVar 2) (aCons (fCall bTuple (aCons (fVar 5) aNil)) (aCons (fCall bTuple (aCons (fVar 6) aNil)) aNil))))))))
def b__law_refused (C : Calls) : FS :=
    (sSeq (sTryAs [("DoppelError", true), ("NotAllowed", true), ("TooLarge", true)] 1 (sExpr (fDef 1 (C 1) (aCons (fVar 0) aNil))) (fun c => (fAnd (fIsX [("DoppelError", false), ("NotAllowed", true), ("TooLarge", false)] c) (fAnd (fIsX [("DoppelError", true), ("NotAllowed", true), ("TooLarge", true)] c) (fNot (fIsX [("DoppelError", false), ("NotAllowed", false), ("TooLarge", true)] c))))))
    (sRet (fC (.bl false))))
def b__law_bad (C : Calls) : FS :=
    (sSeq (sAsg (.tup [2, 3, 4]) (fVar 0))
    (sSeq (sAsg (.one 5) (fLst (aCons (fTup (aCons (fNeg (fC (.int 1))) (aCons (fTup aNil) (aCons (fTup aNil) aNil)))) (aCons (fTup (aCons (fC (.int 201)) (aCons (fTup aNil) (aCons (fTup aNil) aNil)))) (aCons (fTup (aCons (fVar 2) (aCons (fVar 3) (aCons (fOp uAdd (fVar 4) (fTup (aCons (fC (.bl true)) aNil))) aNil)))) (aCons (fTup (aCons (fVar 2) (aCons (fOp uAdd (fVar 3) (fOp uMul (fTup (aCons (fTup aNil) aNil)) (fC (.int 1)))) (aCons (fVar 4) aNil)))) aNil))))))
    (sSeq (sExpr (fMtL gAppend (fVar 5) (aCons (fTup (aCons (fC (.int 1)) (aCons (fCall bTuple (aCons (fLc (iRg1 (fC (.int 401))) [7] (.one 7) tAll (fTup (aCons (fC (.int 0)) aNil))) aNil)) (aCons (fCall bTuple (aCons (fLc (iRg1 (fC (.int 401))) [7] (.one 7) tAll (fC (.bl false))) aNil)) aNil)))) aNil)))
    (sSeq (sIf (tAn (tstB (fOp uGt (fCall bLen (aCons (fVar 3) aNil)) (fC (.int 0)))) (tstB (fOp uGt (fVar 2) (fC (.int 0))))) (sSeq (sAsg (.one 6) (fOp ixU (fVar 3) (fOp uSub (fCall bLen (aCons (fVar 3) aNil)) (fC (.int 1)))))
    (sSeq (sExpr (fMtL gAppend (fVar 5) (aCons (fTup (aCons (fVar 2) (aCons (fOp uAdd (fSl (fVar 3) oNone (oSome (fNeg (fC (.int 1))))) (fTup (aCons (fSl (fVar 6) oNone (oSome (fNeg (fC (.int 1))))) aNil))) (aCons (fVar 4) aNil)))) aNil)))
    (sSeq (sExpr (fMtL gAppend (fVar 5) (aCons (fTup (aCons (fVar 2) (aCons (fOp uAdd (fSl (fVar 3) oNone (oSome (fNeg (fC (.int 1))))) (fTup (aCons (fOp uAdd (fVar 6) (fTup (aCons (fC (.int 0)) aNil))) aNil))) (aCons (fVar 4) aNil)))) aNil)))
    (sSeq (sExpr (fMtL gAppend (fVar 5) (aCons (fTup (aCons (fVar 2) (aCons (fOp uAdd (fSl (fVar 3) oNone (oSome (fNeg (fC (.int 1))))) (fTup (aCons (fOp uAdd (fTup (aCons (fCall bLen (aCons (fVar 3) aNil)) aNil)) (fSl (fVar 6) (oSome (fC (.int 1))) oNone)) aNil))) (aCons (fVar 4) aNil)))) aNil)))
    (sExpr (fMtL gAppend (fVar 5) (aCons (fTup (aCons (fVar 2) (aCons (fOp uAdd (fSl (fVar 3) oNone (oSome (fNeg (fC (.int 1))))) (fTup (aCons (fOp uAdd (fTup (aCons (fNeg (fC (.int 2))) aNil)) (fSl (fVar 6) (oSome (fC (.int 1))) oNone)) aNil))) (aCons (fVar 4) aNil)))) aNil))))))) sNext)
    (sRet (fOp ixU (fVar 5) (fOp uMod (fVar 1) (fCall bLen (aCons (fVar 5) aNil)))))))))
def b__law_accepts (C : Calls) : FS :=
    (sSeq (sAsg (.one 2) (fC (.int 0)))
    (sSeq (sIf (tstB (fOp uEq (fCall bLen (aCons (fOp ixU (fVar 0) (fC (.int 1))) aNil)) (fC (.int 0)))) (sRet (fC (.bl false))) sNext)
    (sSeq (sFor (iSeq (fVar 1)) (.one 3) (sSeq (sIf (tOr' (tstB (fOp uLt (fVar 3) (fC (.int 0)))) (tstB (fOp uGe (fVar 3) (fOp ixU (fVar 0) (fC (.int 0)))))) (sRet (fC (.bl false))) sNext)
    (sSeq (sAsg (.one 2) (fOp ixU (fOp ixU (fOp ixU (fVar 0) (fC (.int 1))) (fVar 2)) (fVar 3)))
    (sIf (tstB (fOp uLt (fVar 2) (fC (.int 0)))) (sRet (fC (.bl false))) sNext))))
    (sRet (fOp ixU (fOp ixU (fVar 0) (fC (.int 2))) (fVar 2))))))
def b__law_count (C : Calls) : FS :=
    (sSeq (sAsg (.one 2) fD0)
    (sSeq (sIf (tstB (fOp uGt (fCall bLen (aCons (fOp ixU (fVar 0) (fC (.int 1))) aNil)) (fC (.int 0)))) (sStore (fVar 2) (fC (.int 0)) (fC (.int 1))) sNext)
    (sSeq (sFor (iRg1 (fVar 1)) (.one 3) (sSeq (sAsg (.one 4) fD0)
    (sSeq (sFor (iSeq (fCall bSorted (aCons (fVar 2) aNil))) (.one 5) (sFor (iSeq (fOp ixU (fOp ixU (fVar 0) (fC (.int 1))) (fVar 5))) (.one 6) (sIf (tstB (fOp uGe (fVar 6) (fC (.int 0)))) (sStore (fVar 4) (fVar 6) (fOp uAdd (fGet (fVar 4) (fVar 6) (fC (.int 0))) (fOp ixU (fVar 2) (fVar 5)))) sNext)))
    (sAsg (.one 2) (fVar 4)))))
    (sRet (fCall bSum (aCons (fLc (iSeq (fCall bSorted (aCons (fVar 2) aNil))) [5] (.one 5) (tst (fOp ixU (fOp ixU (fVar 0) (fC (.int 2))) (fVar 5))) (fOp ixU (fVar 2) (fVar 5))) aNil))))))
def b__law_lengths (C : Calls) : FS :=
    (sSeq (sAsg (.one 1) (fC (.int 0)))
    (sSeq (sFor (iSeq (fLst (aCons (fNeg (fC (.int 1))) (aCons (fC (.int 101)) (aCons (fC (.int 1000)) aNil))))) (.one 2) (sTry [("DoppelError", false), ("NotAllowed", true), ("TooLarge", false)] (sExpr (fDef 2 (C 5) (aCons (fVar 0) (aCons (fVar 2) aNil)))) (sAsg (.one 1) (fOp uAdd (fVar 1) (fC (.int 1))))))
    (sRet (fOp uEq (fVar 1) (fC (.int 3))))))
def b_law (C : Calls) : FS :=
    (sSeq (sAsg (.one 1) (fDef 2 (C 6) (aCons (fVar 0) (aCons (fC (.int 200)) aNil))))
    (sSeq (sAsg (.one 2) (fDef 5 (C 7) (aCons (fVar 1) (aCons (fC (.int 20)) (aCons (fOp uMod (fOp ixU (fVar 1) (fC (.int 0))) (fC (.int 7))) (aCons (fOp uMod (fOp ixU (fVar 1) (fC (.int 1))) (fC (.int 10))) (aCons (fOp uMod (fOp ixU (fVar 1) (fC (.int 2))) (fC (.int 4))) aNil)))))))
    (sSeq (sIf (tstB (fOp uEq (fOp uMod (fOp ixU (fVar 1) (fC (.int 3))) (fC (.int 12))) (fC (.int 0)))) (sAsg (.one 2) (fDef 5 (C 7) (aCons (fVar 1) (aCons (fC (.int 20)) (aCons (fC (.int 1)) (aCons (fOp uAdd (fC (.int 399)) (fOp uMod (fOp ixU (fVar 1) (fC (.int 1))) (fC (.int 2)))) (aCons (fC (.int 0)) aNil))))))) sNext)
    (sSeq (sIf (tstB (fOp uEq (fOp uMod (fOp ixU (fVar 1) (fC (.int 3))) (fC (.int 12))) (fC (.int 1)))) (sAsg (.one 2) (fDef 5 (C 7) (aCons (fVar 1) (aCons (fC (.int 20)) (aCons (fOp uAdd (fC (.int 199)) (fOp uMod (fOp ixU (fVar 1) (fC (.int 1))) (fC (.int 2)))) (aCons (fC (.int 2)) (aCons (fC (.int 1)) aNil))))))) sNext)
    (sSeq (sIf (tOr' (tstB (fOp uNotN (fDef 1 (C 1) (aCons (fVar 2) aNil)) (fC .non))) (tNt (tst (fDef 1 (C 8) (aCons (fDef 2 (C 9) (aCons (fVar 2) (aCons (fOp ixU (fVar 1) (fC (.int 4))) aNil))) aNil))))) (sRet (fC (.bl false))) sNext)
    (sSeq (sFor (iRg1 (fC (.int 6))) (.one 3) (sSeq (sAsg (.one 4) (fLc (iRg1 (fOp uMod (fOp ixU (fVar 1) (fOp uAdd (fC (.int 5)) (fVar 3))) (fC (.int 13)))) [7] (.one 7) tAll (fOp uMod (fOp uFdiv (fOp ixU (fVar 1) (fOp uAdd (fC (.int 5)) (fVar 3))) (fOp uAdd (fC (.int 1)) (fVar 7))) (fOp uAdd (fOp ixU (fVar 2) (fC (.int 0))) (fC (.int 1))))))
    (sSeq (sIf (tstB (fOp uEq (fOp uMod (fOp uFdiv (fOp ixU (fVar 1) (fOp uAdd (fC (.int 5)) (fVar 3))) (fC (.int 13))) (fC (.int 6))) (fC (.int 0)))) (sAsg (.one 4) (fOp uAdd (fVar 4) (fLst (aCons (fNeg (fC (.int 1))) aNil)))) sNext)
    (sSeq (sAsg (.one 5) (fDef 2 (C 2) (aCons (fVar 2) (aCons (fCall bList (aCons (fVar 4) aNil)) aNil))))
    (sIf (tOr' (tNt (tst (fIsi "bool" (fVar 5)))) (tstB (fOp uNe (fVar 5) (fDef 2 (C 10) (aCons (fVar 2) (aCons (fVar 4) aNil)))))) (sRet (fC (.bl false))) sNext)))))
    (sSeq (sAsg (.one 6) (fOp ixU (fLst (aCons (fOp uMod (fOp ixU (fVar 1) (fC (.int 11))) (fC (.int 9))) (aCons (fOp uMod (fOp ixU (fVar 1) (fC (.int 11))) (fC (.int 101))) aNil))) (fCall bInt (aCons (fAnd (fOp uEq (fOp uMod (fOp uFdiv (fOp ixU (fVar 1) (fC (.int 11))) (fC (.int 101))) (fC (.int 5))) (fC (.int 0))) (fOp uLt (fCall bLen (aCons (fOp ixU (fVar 2) (fC (.int 1))) aNil)) (fC (.int 20)))) aNil))))
    (sSeq (sAsg (.one 5) (fDef 2 (C 5) (aCons (fVar 2) (aCons (fVar 6) aNil))))
    (sSeq (sIf (tOr' (tst (fIsi "bool" (fVar 5))) (tOr' (tstB (fOp uNe (fVar 5) (fDef 2 (C 11) (aCons (fVar 2) (aCons (fVar 6) aNil))))) (tNt (tst (fDef 1 (C 12) (aCons (fVar 2) aNil)))))) (sRet (fC (.bl false))) sNext)
    (sRet (fOp uEq (fLst (aCons (fC (.int 200)) (aCons (fC (.int 400)) (aCons (fC (.int 4000)) (aCons (fC (.int 100)) aNil))))) (fLst (aCons (fC (.int 200)) (aCons (fC (.int 400)) (aCons (fC (.int 4000)) (aCons (fC (.int 100)) aNil))))))))))))))))
def call : Nat → Calls
  | 0 => fun _ _ _ => .bad
  | k + 1 => fun i => match i with
    | 0 => runDef 4 (b_are_moves (call k))
    | 1 => runDef 5 (b_check_machine (call k))
    | 2 => runDef 7 (b_accepts (call k))
    | 3 => runDef 3 (b_ways_of (call k))
    | 4 => runDef 7 (b_counts_behind (call k))
    | 5 => runDef 10 (b_count_words (call k))
    | 6 => runDef 9 (b__law_numbers (call k))
    | 7 => runDef 12 (b__law_machine (call k))
    | 8 => runDef 2 (b__law_refused (call k))
    | 9 => runDef 8 (b__law_bad (call k))
    | 10 => runDef 4 (b__law_accepts (call k))
    | 11 => runDef 7 (b__law_count (call k))
    | 12 => runDef 3 (b__law_lengths (call k))
    | 13 => runDef 8 (b_law (call k))
    | _ => fun _ _ => .bad
theorem call_are_moves (k : Nat) : call (k + 1) 0 = runDef 4 (b_are_moves (call k)) := rfl
theorem call_check_machine (k : Nat) : call (k + 1) 1 = runDef 5 (b_check_machine (call k)) := rfl
theorem call_accepts (k : Nat) : call (k + 1) 2 = runDef 7 (b_accepts (call k)) := rfl
theorem call_ways_of (k : Nat) : call (k + 1) 3 = runDef 3 (b_ways_of (call k)) := rfl
theorem call_counts_behind (k : Nat) : call (k + 1) 4 = runDef 7 (b_counts_behind (call k)) := rfl
theorem call_count_words (k : Nat) : call (k + 1) 5 = runDef 10 (b_count_words (call k)) := rfl
theorem call__law_numbers (k : Nat) : call (k + 1) 6 = runDef 9 (b__law_numbers (call k)) := rfl
theorem call__law_machine (k : Nat) : call (k + 1) 7 = runDef 12 (b__law_machine (call k)) := rfl
theorem call__law_refused (k : Nat) : call (k + 1) 8 = runDef 2 (b__law_refused (call k)) := rfl
theorem call__law_bad (k : Nat) : call (k + 1) 9 = runDef 8 (b__law_bad (call k)) := rfl
theorem call__law_accepts (k : Nat) : call (k + 1) 10 = runDef 4 (b__law_accepts (call k)) := rfl
theorem call__law_count (k : Nat) : call (k + 1) 11 = runDef 7 (b__law_count (call k)) := rfl
theorem call__law_lengths (k : Nat) : call (k + 1) 12 = runDef 3 (b__law_lengths (call k)) := rfl
theorem call_law (k : Nat) : call (k + 1) 13 = runDef 8 (b_law (call k)) := rfl
/-! ### what stands in the top -/
structure Facts (K : PySem.W.Frag) (mg : Str → Option Value) (w : World) (ad : Nat → Addr) (fd : Nat → FuncData) : Prop where
  F0 : FnP K "are_moves" s_are_moves (ad 0) (fd 0)
  b0 : Binds K (fd 0) ["entry", "letters", "states"] []
  m0 : mg "are_moves" = some (.ref (ad 0))
  F1 : FnP K "check_machine" s_check_machine (ad 1) (fd 1)
  b1 : Binds K (fd 1) ["machine"] []
  m1 : mg "check_machine" = some (.ref (ad 1))
  F2 : FnP K "accepts" s_accepts (ad 2) (fd 2)
  b2 : Binds K (fd 2) ["machine", "word"] []
  m2 : mg "accepts" = some (.ref (ad 2))
  F3 : FnP K "ways_of" s_ways_of (ad 3) (fd 3)
  b3 : Binds K (fd 3) ["entry"] []
  m3 : mg "ways_of" = some (.ref (ad 3))
  F4 : FnP K "counts_behind" s_counts_behind (ad 4) (fd 4)
  b4 : Binds K (fd 4) ["counts", "ways"] []
  m4 : mg "counts_behind" = some (.ref (ad 4))
  F5 : FnP K "count_words" s_count_words (ad 5) (fd 5)
  b5 : Binds K (fd 5) ["machine", "length"] []
  m5 : mg "count_words" = some (.ref (ad 5))
  F6 : FnP K "_law_numbers" s__law_numbers (ad 6) (fd 6)
  b6 : Binds K (fd 6) ["script", "many"] []
  m6 : mg "_law_numbers" = some (.ref (ad 6))
  F7 : FnP K "_law_machine" s__law_machine (ad 7) (fd 7)
  b7 : Binds K (fd 7) ["numbers", "at", "letters", "states", "gaps"] []
  m7 : mg "_law_machine" = some (.ref (ad 7))
  F8 : FnP K "_law_refused" s__law_refused (ad 8) (fd 8)
  b8 : Binds K (fd 8) ["machine"] []
  m8 : mg "_law_refused" = some (.ref (ad 8))
  F9 : FnP K "_law_bad" s__law_bad (ad 9) (fd 9)
  b9 : Binds K (fd 9) ["machine", "number"] []
  m9 : mg "_law_bad" = some (.ref (ad 9))
  F10 : FnP K "_law_accepts" s__law_accepts (ad 10) (fd 10)
  b10 : Binds K (fd 10) ["machine", "word"] []
  m10 : mg "_law_accepts" = some (.ref (ad 10))
  F11 : FnP K "_law_count" s__law_count (ad 11) (fd 11)
  b11 : Binds K (fd 11) ["machine", "length"] []
  m11 : mg "_law_count" = some (.ref (ad 11))
  F12 : FnP K "_law_lengths" s__law_lengths (ad 12) (fd 12)
  b12 : Binds K (fd 12) ["machine"] []
  m12 : mg "_law_lengths" = some (.ref (ad 12))
  F13 : FnP K "law" s_law (ad 13) (fd 13)
  b13 : Binds K (fd 13) ["script"] []
  m13 : mg "law" = some (.ref (ad 13))
  z_ValueError : mg "ValueError" = none
  z_abs : mg "abs" = none
  z_all : mg "all" = none
  z_bool : mg "bool" = none
  z_int : mg "int" = none
  z_isinstance : mg "isinstance" = none
  z_len : mg "len" = none
  z_list : mg "list" = none
  z_max : mg "max" = none
  z_range : mg "range" = none
  z_sorted : mg "sorted" = none
  z_sum : mg "sum" = none
  z_tuple : mg "tuple" = none
  c_MAX_COUNT : GlobC K mg "MAX_COUNT" (.int 100)
  c_MAX_MACHINE : GlobC K mg "MAX_MACHINE" (.int 400)
  c_MAX_PAIRS : GlobC K mg "MAX_PAIRS" (.int 4000)
  c_MAX_SIGNS : GlobC K mg "MAX_SIGNS" (.int 200)
  x_DoppelError : Exn K mg "DoppelError"
  x_NotAllowed : Exn K mg "NotAllowed"
  xm_DoppelError_DoppelError : Exm K mg "DoppelError" "DoppelError" true
  xm_DoppelError_NotAllowed : Exm K mg "DoppelError" "NotAllowed" false
  xm_NotAllowed_DoppelError : Exm K mg "NotAllowed" "DoppelError" true
  xm_NotAllowed_NotAllowed : Exm K mg "NotAllowed" "NotAllowed" true
  xm_TooLarge_DoppelError : Exm K mg "TooLarge" "DoppelError" true
  xm_TooLarge_NotAllowed : Exm K mg "TooLarge" "NotAllowed" false
  is_DoppelError_NotAllowed : Isx K mg "DoppelError" "NotAllowed" false
  is_DoppelError_TooLarge : Isx K mg "DoppelError" "TooLarge" false
  is_NotAllowed_NotAllowed : Isx K mg "NotAllowed" "NotAllowed" true
  is_NotAllowed_TooLarge : Isx K mg "NotAllowed" "TooLarge" false
  is_TooLarge_NotAllowed : Isx K mg "TooLarge" "NotAllowed" false
  is_TooLarge_TooLarge : Isx K mg "TooLarge" "TooLarge" true
  iv_DoppelError : Isv K mg "DoppelError" true
  iv_NotAllowed : Isv K mg "NotAllowed" true
  iv_TooLarge : Isv K mg "TooLarge" true
structure Tab (P : Program) (w : World) (K : PySem.W.Frag) (mg : Str → Option Value) (base : Heap) (ad : Nat → Addr) (fd : Nat → FuncData) (k : Nat) (C : Calls) : Prop where
  G0 : FnOk P w K mg base (L2.CX P w) k (ad 0) (fd 0) ["entry", "letters", "states"] (spF K mg 3 (C 0))
  G1 : FnOk P w K mg base (L2.CX P w) k (ad 1) (fd 1) ["machine"] (spF K mg 1 (C 1))
  G2 : FnOk P w K mg base (L2.CX P w) k (ad 2) (fd 2) ["machine", "word"] (spF K mg 2 (C 2))
  G3 : FnOk P w K mg base (L2.CX P w) k (ad 3) (fd 3) ["entry"] (spF K mg 1 (C 3))
  G4 : FnOk P w K mg base (L2.CX P w) k (ad 4) (fd 4) ["counts", "ways"] (spF K mg 2 (C 4))
  G5 : FnOk P w K mg base (L2.CX P w) k (ad 5) (fd 5) ["machine", "length"] (spF K mg 2 (C 5))
  G6 : FnOk P w K mg base (L2.CX P w) k (ad 6) (fd 6) ["script", "many"] (spF K mg 2 (C 6))
  G7 : FnOk P w K mg base (L2.CX P w) k (ad 7) (fd 7) ["numbers", "at", "letters", "states", "gaps"] (spF K mg 5 (C 7))
  G8 : FnOk P w K mg base (L2.CX P w) k (ad 8) (fd 8) ["machine"] (spF K mg 1 (C 8))
  G9 : FnOk P w K mg base (L2.CX P w) k (ad 9) (fd 9) ["machine", "number"] (spF K mg 2 (C 9))
  G10 : FnOk P w K mg base (L2.CX P w) k (ad 10) (fd 10) ["machine", "word"] (spF K mg 2 (C 10))
  G11 : FnOk P w K mg base (L2.CX P w) k (ad 11) (fd 11) ["machine", "length"] (spF K mg 2 (C 11))
  G12 : FnOk P w K mg base (L2.CX P w) k (ad 12) (fd 12) ["machine"] (spF K mg 1 (C 12))
  G13 : FnOk P w K mg base (L2.CX P w) k (ad 13) (fd 13) ["script"] (spF K mg 1 (C 13))
section
variable {P : Program} {w : World} {K : PySem.W.Frag} {mg : Str → Option Value} {base : Heap} {ad : Nat → Addr} {fd : Nat → FuncData} {k : Nat} {C : Calls}
end
end Lw
namespace Lw
open PySem PySem.Spec PyProof.Rows L2 RZ Dg
section
variable {P : Program} {w : World} {K : PySem.W.Frag} {mg : Str → Option Value} {base : Heap} {ad : Nat → Addr} {fd : Nat → FuncData} {k : Nat} {C : Calls}
theorem ok_are_moves (Fx : Facts K mg w ad fd) (T : Tab P w K mg base ad fd (k + 40) C) : FnOk P w K mg base (L2.CX P w) (k + 41) (ad 0) (fd 0) ["entry", "letters", "states"] (spF K mg 3 (runDef 4 (b_are_moves C))) :=
  defD_ok (N := N_are_moves) (ps := ["entry", "letters", "states"]) Fx.F0 sc_are_moves (fun cdv A outer s H E G =>
    (css_one (cs_ret (ce_and (ce_cmp (os_eq G) (ce_callB cs_len rfl Fx.z_len bt_len (ca_cons (ce_var 0) ca_nil) (fun hc ha => pe_callB hc rfl Fx.z_len bt_len ha)) (ce_var 1) (nomark _)) (ce_one (ce_callB (cs_all G.calm) rfl Fx.z_all bt_all (ca_cons (ce_lc (own := [("target", 3)]) G sc_are_moves.nd (blkOk_by (own := [("target", 3)]) (N := N_are_moves) (sc := defScope s_are_moves) (by decide +kernel)) (ci_seq (ce_var 0)) (fun s0 H0 C0 cl fp => (cg_one (i := 3) sc_are_moves.nd rfl (Or.inl rfl))) (fun s0 H0 C0 cl fp => cts_nil) (fun s0 H0 C0 cl fp => (ce_chain os_le os_lt (ce_neg ce_int) (ce_var 3) (ce_var 2) (fun h h2 x y z => pe_chain h h2 x y z))) rfl) ca_nil) (fun hc ha => pe_callB hc rfl Fx.z_all bt_all ha)))))))
end
end Lw
namespace Lw
open PySem PySem.Spec PyProof.Rows L2 RZ Dg
section
variable {P : Program} {w : World} {K : PySem.W.Frag} {mg : Str → Option Value} {base : Heap} {ad : Nat → Addr} {fd : Nat → FuncData} {k : Nat} {C : Calls}
theorem ok_check_machine (Fx : Facts K mg w ad fd) (T : Tab P w K mg base ad fd (k + 40) C) : FnOk P w K mg base (L2.CX P w) (k + 41) (ad 1) (fd 1) ["machine"] (spF K mg 1 (runDef 5 (b_check_machine C))) :=
  defD_ok (N := N_check_machine) (ps := ["machine"]) Fx.F1 sc_check_machine (fun cdv A outer s H E G =>
    (css_cons (cs_asg (ce_var 0) (cg_tup G.calm (cgs_cons (cg_one (i := 1) sc_check_machine.nd rfl (Or.inr rfl)) (cgs_cons (cg_one (i := 2) sc_check_machine.nd rfl (Or.inr rfl)) (cgs_cons (cg_one (i := 3) sc_check_machine.nd rfl (Or.inl rfl)) cgs_nil)))) (fun he hg => ps_asg he hg))
    (css_cons (cs_if (ct_not (ct_chain os_le os_le ce_int (ce_var 1) (ce_globC rfl Fx.c_MAX_SIGNS) (fun h h2 x y z => pt_chain h h2 x y z))) (css_one (cs_raiseN G Fx.x_NotAllowed rfl (ce_joined (.cons ce_str (.cons (ce_fmt (ce_globC rfl Fx.c_MAX_SIGNS)) .nil))))) css_nil)
    (css_cons (cs_if (ct_cmp os_gt (ce_callB cs_len rfl Fx.z_len bt_len (ca_cons (ce_var 2) ca_nil) (fun hc ha => pe_callB hc rfl Fx.z_len bt_len ha)) (ce_globC rfl Fx.c_MAX_MACHINE) (nomark _)) (css_one (cs_raiseN G Fx.x_NotAllowed rfl (ce_joined (.cons ce_str (.cons (ce_fmt (ce_globC rfl Fx.c_MAX_MACHINE)) (.cons ce_str .nil)))))) css_nil)
    (css_cons (cs_if (ct_cmp (os_ne G) (ce_callB cs_len rfl Fx.z_len bt_len (ca_cons (ce_var 3) ca_nil) (fun hc ha => pe_callB hc rfl Fx.z_len bt_len ha)) (ce_callB cs_len rfl Fx.z_len bt_len (ca_cons (ce_var 2) ca_nil) (fun hc ha => pe_callB hc rfl Fx.z_len bt_len ha)) (nomark _)) (css_one (cs_raiseN G Fx.x_NotAllowed rfl ce_str)) css_nil)
    (css_one (cs_if (ct_not (ct_val (ce_callB (cs_all G.calm) rfl Fx.z_all bt_all (ca_cons (ce_lc (own := [("entry", 4)]) G sc_check_machine.nd (blkOk_by (own := [("entry", 4)]) (N := N_check_machine) (sc := defScope s_check_machine) (by decide +kernel)) (ci_seq (ce_var 2)) (fun s0 H0 C0 cl fp => (cg_one (i := 4) sc_check_machine.nd rfl (Or.inl rfl))) (fun s0 H0 C0 cl fp => cts_nil) (fun s0 H0 C0 cl fp => have G := Good.blk (s := s0) (H := H0) (fp := fp) G; (ce_def G (Nat.le_refl _) T.G0 (ca_cons (ce_var 4) (ca_cons (ce_var 1) (ca_cons (ce_callB cs_len rfl Fx.z_len bt_len (ca_cons (ce_var 2) ca_nil) (fun hc ha => pe_callB hc rfl Fx.z_len bt_len ha)) ca_nil))) (fun hx ha => pe_callS T.G0 G.room rfl Fx.m0 Fx.F0.kp Fx.b0 hx ha))) rfl) ca_nil) (fun hc ha => pe_callB hc rfl Fx.z_all bt_all ha)))) (css_one (cs_raiseN G Fx.x_NotAllowed rfl ce_str)) css_nil)))))))
end
end Lw
namespace Lw
open PySem PySem.Spec PyProof.Rows L2 RZ Dg
section
variable {P : Program} {w : World} {K : PySem.W.Frag} {mg : Str → Option Value} {base : Heap} {ad : Nat → Addr} {fd : Nat → FuncData} {k : Nat} {C : Calls}
theorem ok_accepts (Fx : Facts K mg w ad fd) (T : Tab P w K mg base ad fd (k + 40) C) : FnOk P w K mg base (L2.CX P w) (k + 41) (ad 2) (fd 2) ["machine", "word"] (spF K mg 2 (runDef 7 (b_accepts C))) :=
  defD_ok (N := N_accepts) (ps := ["machine", "word"]) Fx.F2 sc_accepts (fun cdv A outer s H E G =>
    (css_cons (cs_asg (ce_var 0) (cg_tup G.calm (cgs_cons (cg_one (i := 2) sc_accepts.nd rfl (Or.inl rfl)) (cgs_cons (cg_one (i := 3) sc_accepts.nd rfl (Or.inl rfl)) (cgs_cons (cg_one (i := 4) sc_accepts.nd rfl (Or.inl rfl)) cgs_nil)))) (fun he hg => ps_asg he hg))
    (css_cons (cs_set (i := 5) sc_accepts.nd rfl (Or.inl rfl) (ce_if (ct_val (ce_var 3)) ce_int (ce_neg ce_int)))
    (css_cons (cs_for G (ci_seq (ce_var 1)) (cg_one (i := 6) sc_accepts.nd rfl (Or.inl rfl)) (css_cons (cs_if (CW.ct (cw_or (ct_cmp (os_eq G) (ce_var 5) (ce_neg ce_int) (nomark _)) (cw_or1 (ct_not (ct_chain os_le os_lt ce_int (ce_var 6) (ce_var 2) (fun h h2 x y z => pt_chain h h2 x y z)))))) (css_one (cs_ret ce_bl)) css_nil)
    (css_one (cs_set (i := 5) sc_accepts.nd rfl (Or.inl rfl) (ce_sub G (ce_sub G (ce_var 3) (ce_var 5)) (ce_var 6))))))
    (css_one (cs_ret (ce_and (ce_cmp (os_ne G) (ce_var 5) (ce_neg ce_int) (nomark _)) (ce_one (ce_sub G (ce_var 4) (ce_var 5))))))))))
end
end Lw
namespace Lw
open PySem PySem.Spec PyProof.Rows L2 RZ Dg
section
variable {P : Program} {w : World} {K : PySem.W.Frag} {mg : Str → Option Value} {base : Heap} {ad : Nat → Addr} {fd : Nat → FuncData} {k : Nat} {C : Calls}
theorem ok_ways_of (Fx : Facts K mg w ad fd) (T : Tab P w K mg base ad fd (k + 40) C) : FnOk P w K mg base (L2.CX P w) (k + 41) (ad 3) (fd 3) ["entry"] (spF K mg 1 (runDef 3 (b_ways_of C))) :=
  defD_ok (N := N_ways_of) (ps := ["entry"]) Fx.F3 sc_ways_of (fun cdv A outer s H E G =>
    (css_cons (cs_set (i := 1) sc_ways_of.nd rfl (Or.inl rfl) ce_d0)
    (css_cons (cs_for G (ci_seq (ce_var 0)) (cg_one (i := 2) sc_ways_of.nd rfl (Or.inl rfl)) (css_one (cs_if (ct_cmp (os_ne G) (ce_var 2) (ce_neg ce_int) (nomark _)) (css_one (cs_store G (ce_var 1) (ce_var 2) (ce_op os_add (ce_get G (ce_var 1) (ce_var 2) ce_int ⟨rfl, rfl, rfl, rfl⟩) ce_int) (fun ho hi he => ps_asg he (pg_sub ho hi set_list)) (fun ho hi he => ps_dput G.hu ho hi he rfl))) css_nil)))
    (css_one (cs_ret (ce_var 1))))))
end
end Lw
namespace Lw
open PySem PySem.Spec PyProof.Rows L2 RZ Dg
section
variable {P : Program} {w : World} {K : PySem.W.Frag} {mg : Str → Option Value} {base : Heap} {ad : Nat → Addr} {fd : Nat → FuncData} {k : Nat} {C : Calls}
theorem ok_counts_behind (Fx : Facts K mg w ad fd) (T : Tab P w K mg base ad fd (k + 40) C) : FnOk P w K mg base (L2.CX P w) (k + 41) (ad 4) (fd 4) ["counts", "ways"] (spF K mg 2 (runDef 7 (b_counts_behind C))) :=
  defD_ok (N := N_counts_behind) (ps := ["counts", "ways"]) Fx.F4 sc_counts_behind (fun cdv A outer s H E G =>
    (css_cons (cs_set (i := 2) sc_counts_behind.nd rfl (Or.inl rfl) ce_d0)
    (css_cons (cs_lock (cs_for G (ci_items (ce_var 0)) (cg_tup G.calm (cgs_cons (cg_one (i := 3) sc_counts_behind.nd rfl (Or.inl rfl)) (cgs_cons (cg_one (i := 4) sc_counts_behind.nd rfl (Or.inl rfl)) cgs_nil))) (css_one (cs_lock (cs_for G (ci_items (ce_sub G (ce_var 1) (ce_var 3))) (cg_tup G.calm (cgs_cons (cg_one (i := 5) sc_counts_behind.nd rfl (Or.inl rfl)) (cgs_cons (cg_one (i := 6) sc_counts_behind.nd rfl (Or.inl rfl)) cgs_nil))) (css_one (cs_store G (ce_var 2) (ce_var 5) (ce_op os_add (ce_get G (ce_var 2) (ce_var 5) ce_int ⟨rfl, rfl, rfl, rfl⟩) (ce_op os_mul (ce_var 4) (ce_var 6))) (fun ho hi he => ps_asg he (pg_sub ho hi set_list)) (fun ho hi he => ps_dput G.hu ho hi he rfl))))))))
    (css_one (cs_ret (ce_var 2))))))
end
end Lw
namespace Lw
open PySem PySem.Spec PyProof.Rows L2 RZ Dg
section
variable {P : Program} {w : World} {K : PySem.W.Frag} {mg : Str → Option Value} {base : Heap} {ad : Nat → Addr} {fd : Nat → FuncData} {k : Nat} {C : Calls}
theorem ok_count_words (Fx : Facts K mg w ad fd) (T : Tab P w K mg base ad fd (k + 40) C) : FnOk P w K mg base (L2.CX P w) (k + 41) (ad 5) (fd 5) ["machine", "length"] (spF K mg 2 (runDef 10 (b_count_words C))) :=
  defD_ok (N := N_count_words) (ps := ["machine", "length"]) Fx.F5 sc_count_words (fun cdv A outer s H E G =>
    (css_cons (cs_if (ct_not (ct_chain os_le os_le ce_int (ce_var 1) (ce_globC rfl Fx.c_MAX_COUNT) (fun h h2 x y z => pt_chain h h2 x y z))) (css_one (cs_raiseN G Fx.x_NotAllowed rfl (ce_joined (.cons ce_str (.cons (ce_fmt (ce_globC rfl Fx.c_MAX_COUNT)) .nil))))) css_nil)
    (css_cons (cs_asg (ce_var 0) (cg_tup G.calm (cgs_cons (cg_one (i := 2) sc_count_words.nd rfl (Or.inl rfl)) (cgs_cons (cg_one (i := 3) sc_count_words.nd rfl (Or.inl rfl)) (cgs_cons (cg_one (i := 4) sc_count_words.nd rfl (Or.inr rfl)) cgs_nil)))) (fun he hg => ps_asg he hg))
    (css_cons (cs_setLc (i := 5) (own := [("entry", 7)]) G sc_count_words.nd rfl rfl (sw_true rfl rfl rfl (by decide +kernel)) (blkOk_by (own := [("entry", 7)]) (N := N_count_words) (sc := defScope s_count_words) (by decide +kernel)) (ci_seq (ce_var 3)) (fun s0 H0 C0 cl fp => (cg_one (i := 7) sc_count_words.nd rfl (Or.inl rfl))) (fun s0 H0 C0 cl fp => cts_nil) (fun s0 H0 C0 cl fp => have G := Good.blk (s := s0) (H := H0) (fp := fp) G; (ce_def G (Nat.le_refl _) T.G3 (ca_cons (ce_var 7) ca_nil) (fun hx ha => pe_callS T.G3 G.room rfl Fx.m3 Fx.F3.kp Fx.b3 hx ha))) rfl (fun hi hg ht he => ps_setLc (i := 5) (own := [("entry", 7)]) G.calm sc_count_words.nd rfl rfl (sw_true rfl rfl rfl (by decide +kernel)) hi (blkOk_by (own := [("entry", 7)]) (N := N_count_words) (sc := defScope s_count_words) (by decide +kernel)) hg ht he))
    (css_cons (cs_set (i := 6) sc_count_words.nd rfl (Or.inl rfl) (ce_if (ct_val (ce_var 3)) (ce_disp (.cons ce_int ce_int .nil)) ce_d0))
    (css_cons (cs_for G (ci_rg1 rfl Fx.z_range (ce_var 1)) (cg_one (i := 2) sc_count_words.nd rfl (Or.inl rfl)) (css_one (cs_set (i := 6) sc_count_words.nd rfl (Or.inl rfl) (ce_def G (Nat.le_refl _) T.G4 (ca_cons (ce_var 6) (ca_cons (ce_var 5) ca_nil)) (fun hx ha => pe_callS T.G4 G.room rfl Fx.m4 Fx.F4.kp Fx.b4 hx ha)))))
    (css_one (cs_ret (ce_callB (cs_sum G.calm) rfl Fx.z_sum bt_sum (ca_cons (ce_lock (ce_lc (own := [("state", 8), ("count", 9)]) G sc_count_words.nd (blkOk_by (own := [("state", 8), ("count", 9)]) (N := N_count_words) (sc := defScope s_count_words) (by decide +kernel)) (ci_items (ce_var 6)) (fun s0 H0 C0 cl fp => have G := Good.blk (s := s0) (H := H0) (fp := fp) G; (cg_tup G.calm (cgs_cons (cg_one (i := 8) sc_count_words.nd rfl (Or.inl rfl)) (cgs_cons (cg_one (i := 9) sc_count_words.nd rfl (Or.inl rfl)) cgs_nil)))) (fun s0 H0 C0 cl fp => have G := Good.blk (s := s0) (H := H0) (fp := fp) G; (cts_one (ct_val (ce_sub G (ce_var 4) (ce_var 8))))) (fun s0 H0 C0 cl fp => (ce_var 9)) rfl)) ca_nil) (fun hc ha => pe_callB hc rfl Fx.z_sum bt_sum ha))))))))))
end
end Lw
namespace Lw
open PySem PySem.Spec PyProof.Rows L2 RZ Dg
section
variable {P : Program} {w : World} {K : PySem.W.Frag} {mg : Str → Option Value} {base : Heap} {ad : Nat → Addr} {fd : Nat → FuncData} {k : Nat} {C : Calls}
theorem ok__law_numbers (Fx : Facts K mg w ad fd) (T : Tab P w K mg base ad fd (k + 40) C) : FnOk P w K mg base (L2.CX P w) (k + 41) (ad 6) (fd 6) ["script", "many"] (spF K mg 2 (runDef 9 (b__law_numbers C))) :=
  defD_ok (N := N__law_numbers) (ps := ["script", "many"]) Fx.F6 sc__law_numbers (fun cdv A outer s H E G =>
    (css_cons (cs_set (i := 2) sc__law_numbers.nd rfl (Or.inl rfl) (ce_lst ca_nil))
    (css_cons (cs_for G (ci_rg1 rfl Fx.z_range (ce_callB cs_len rfl Fx.z_len bt_len (ca_cons (ce_var 0) ca_nil) (fun hc ha => pe_callB hc rfl Fx.z_len bt_len ha))) (cg_one (i := 3) sc__law_numbers.nd rfl (Or.inl rfl)) (css_cons (cs_set (i := 4) sc__law_numbers.nd rfl (Or.inl rfl) (ce_callB cs_abs rfl Fx.z_abs bt_abs (ca_cons (ce_callT cs_int rfl Fx.z_int bt_int (ca_cons (ce_sub G (ce_var 0) (ce_var 3)) ca_nil) (fun hc ha => pe_callTy hc rfl Fx.z_int bt_int ha)) ca_nil) (fun hc ha => pe_callB hc rfl Fx.z_abs bt_abs ha)))
    (css_one (cs_if (ct_cmp os_ge (ce_var 4) (ce_op os_pow ce_int ce_int) (nomark _)) (css_one (cs_for G (ci_rg1 rfl Fx.z_range ce_int) (cg_one (i := 5) sc__law_numbers.nd rfl (Or.inl rfl)) (css_one (cs_if (CW.ct (cw_and (ct_cmp os_gt (ce_var 4) ce_int (nomark _)) (cw_and1 (ct_cmp os_lt (ce_callB cs_len rfl Fx.z_len bt_len (ca_cons (ce_var 2) ca_nil) (fun hc ha => pe_callB hc rfl Fx.z_len bt_len ha)) (ce_var 1) (nomark _))))) (css_cons (cs_expr (ce_mtL gs_append (ce_var 2) (ca_cons (ce_op os_mod (ce_var 4) ce_int) ca_nil) (fun hm ho ha => pe_bm PySem.F.plainAttrs_list PySem.F.slot_list_append PySem.F.type_list_append hm ho ha)))
    (css_one (cs_set (i := 4) sc__law_numbers.nd rfl (Or.inl rfl) (ce_op os_fdiv (ce_var 4) ce_int)))) css_nil)))) (css_one (cs_if (ct_cmp os_lt (ce_callB cs_len rfl Fx.z_len bt_len (ca_cons (ce_var 2) ca_nil) (fun hc ha => pe_callB hc rfl Fx.z_len bt_len ha)) (ce_var 1) (nomark _)) (css_cons (cs_set (i := 6) sc__law_numbers.nd rfl (Or.inl rfl) (ce_op os_mod (ce_callT cs_int rfl Fx.z_int bt_int (ca_cons (ce_op os_add (ce_op os_add (ce_op os_mul (ce_var 4) ce_int) (ce_op os_mul (ce_var 3) ce_int)) ce_int) ca_nil) (fun hc ha => pe_callTy hc rfl Fx.z_int bt_int ha)) ce_int))
    (css_one (cs_expr (ce_mtL gs_append (ce_var 2) (ca_cons (ce_op os_fdiv (ce_op os_mod (ce_callT cs_int rfl Fx.z_int bt_int (ca_cons (ce_op os_add (ce_op os_add (ce_op os_mul (ce_var 6) ce_int) (ce_op os_mul ce_int (ce_var 3))) ce_int) ca_nil) (fun hc ha => pe_callTy hc rfl Fx.z_int bt_int ha)) ce_int) ce_int) ca_nil) (fun hm ho ha => pe_bm PySem.F.plainAttrs_list PySem.F.slot_list_append PySem.F.type_list_append hm ho ha))))) css_nil))))))
    (css_cons (cs_set (i := 7) sc__law_numbers.nd rfl (Or.inl rfl) (ce_callB cs_len rfl Fx.z_len bt_len (ca_cons (ce_var 2) ca_nil) (fun hc ha => pe_callB hc rfl Fx.z_len bt_len ha)))
    (css_cons (cs_set (i := 8) sc__law_numbers.nd rfl (Or.inl rfl) (ce_op os_add ce_int (ce_callB cs_len rfl Fx.z_len bt_len (ca_cons (ce_var 0) ca_nil) (fun hc ha => pe_callB hc rfl Fx.z_len bt_len ha))))
    (css_cons (cs_for G (ci_rg1 rfl Fx.z_range (ce_callB (cs_max G.calm) rfl Fx.z_max bt_max (ca_cons ce_int (ca_cons (ce_op os_sub (ce_var 1) (ce_var 7)) ca_nil)) (fun hc ha => pe_callB hc rfl Fx.z_max bt_max ha))) (cg_one (i := 3) sc__law_numbers.nd rfl (Or.inl rfl)) (css_cons (cs_if (ct_cmp os_gt (ce_var 7) ce_int (nomark _)) (css_one (cs_set (i := 8) sc__law_numbers.nd rfl (Or.inl rfl) (ce_op os_add (ce_var 8) (ce_sub G (ce_var 2) (ce_op os_mod (ce_var 3) (ce_var 7)))))) css_nil)
    (css_cons (cs_set (i := 8) sc__law_numbers.nd rfl (Or.inl rfl) (ce_op os_mod (ce_callT cs_int rfl Fx.z_int bt_int (ca_cons (ce_op os_add (ce_op os_mul (ce_var 8) ce_int) (ce_var 3)) ca_nil) (fun hc ha => pe_callTy hc rfl Fx.z_int bt_int ha)) ce_int))
    (css_one (cs_expr (ce_mtL gs_append (ce_var 2) (ca_cons (ce_op os_fdiv (ce_var 8) ce_int) ca_nil) (fun hm ho ha => pe_bm PySem.F.plainAttrs_list PySem.F.slot_list_append PySem.F.type_list_append hm ho ha)))))))
    (css_one (cs_ret (ce_slice (ce_var 2) co_none (co_some (ce_var 1)))))))))))
end
end Lw
namespace Lw
open PySem PySem.Spec PyProof.Rows L2 RZ Dg
section
variable {P : Program} {w : World} {K : PySem.W.Frag} {mg : Str → Option Value} {base : Heap} {ad : Nat → Addr} {fd : Nat → FuncData} {k : Nat} {C : Calls}
theorem ok__law_machine (Fx : Facts K mg w ad fd) (T : Tab P w K mg base ad fd (k + 40) C) : FnOk P w K mg base (L2.CX P w) (k + 41) (ad 7) (fd 7) ["numbers", "at", "letters", "states", "gaps"] (spF K mg 5 (runDef 12 (b__law_machine C))) :=
  defD_ok (N := N__law_machine) (ps := ["numbers", "at", "letters", "states", "gaps"]) Fx.F7 sc__law_machine (fun cdv A outer s H E G =>
    (css_cons (cs_set (i := 5) sc__law_machine.nd rfl (Or.inl rfl) (ce_lst ca_nil))
    (css_cons (cs_set (i := 6) sc__law_machine.nd rfl (Or.inl rfl) (ce_lst ca_nil))
    (css_cons (cs_for G (ci_rg1 rfl Fx.z_range (ce_var 3)) (cg_one (i := 7) sc__law_machine.nd rfl (Or.inl rfl)) (css_cons (cs_set (i := 8) sc__law_machine.nd rfl (Or.inl rfl) (ce_lst ca_nil))
    (css_cons (cs_for G (ci_rg1 rfl Fx.z_range (ce_var 2)) (cg_one (i := 9) sc__law_machine.nd rfl (Or.inl rfl)) (css_cons (cs_set (i := 10) sc__law_machine.nd rfl (Or.inl rfl) (ce_sub G (ce_var 0) (ce_op os_mod (ce_callT cs_int rfl Fx.z_int bt_int (ca_cons (ce_op os_add (ce_op os_add (ce_var 1) (ce_op os_mul (ce_var 7) (ce_var 2))) (ce_var 9)) ca_nil) (fun hc ha => pe_callTy hc rfl Fx.z_int bt_int ha)) (ce_callB cs_len rfl Fx.z_len bt_len (ca_cons (ce_var 0) ca_nil) (fun hc ha => pe_callB hc rfl Fx.z_len bt_len ha)))))
    (css_cons (cs_set (i := 11) sc__law_machine.nd rfl (Or.inl rfl) (ce_op os_mod (ce_op os_fdiv (ce_var 10) ce_int) (ce_var 3)))
    (css_cons (cs_if (ct_cmp os_lt (ce_op os_mod (ce_var 10) ce_int) (ce_var 4) (nomark _)) (css_one (cs_set (i := 11) sc__law_machine.nd rfl (Or.inl rfl) (ce_neg ce_int))) css_nil)
    (css_one (cs_expr (ce_mtL gs_append (ce_var 8) (ca_cons (ce_var 11) ca_nil) (fun hm ho ha => pe_bm PySem.F.plainAttrs_list PySem.F.slot_list_append PySem.F.type_list_append hm ho ha))))))))
    (css_cons (cs_expr (ce_mtL gs_append (ce_var 5) (ca_cons (ce_callT cs_tuple rfl Fx.z_tuple bt_tuple (ca_cons (ce_var 8) ca_nil) (fun hc ha => pe_callTy hc rfl Fx.z_tuple bt_tuple ha)) ca_nil) (fun hm ho ha => pe_bm PySem.F.plainAttrs_list PySem.F.slot_list_append PySem.F.type_list_append hm ho ha)))
    (css_one (cs_expr (ce_mtL gs_append (ce_var 6) (ca_cons (ce_cmp (os_eq G) (ce_op os_mod (ce_op os_fdiv (ce_sub G (ce_var 0) (ce_op os_mod (ce_callT cs_int rfl Fx.z_int bt_int (ca_cons (ce_op os_add (ce_op os_add (ce_var 1) ce_int) (ce_var 7)) ca_nil) (fun hc ha => pe_callTy hc rfl Fx.z_int bt_int ha)) (ce_callB cs_len rfl Fx.z_len bt_len (ca_cons (ce_var 0) ca_nil) (fun hc ha => pe_callB hc rfl Fx.z_len bt_len ha)))) ce_int) ce_int) ce_int (nomark _)) ca_nil) (fun hm ho ha => pe_bm PySem.F.plainAttrs_list PySem.F.slot_list_append PySem.F.type_list_append hm ho ha))))))))
    (css_one (cs_ret (ce_tup (ca_cons (ce_var 2) (ca_cons (ce_callT cs_tuple rfl Fx.z_tuple bt_tuple (ca_cons (ce_var 5) ca_nil) (fun hc ha => pe_callTy hc rfl Fx.z_tuple bt_tuple ha)) (ca_cons (ce_callT cs_tuple rfl Fx.z_tuple bt_tuple (ca_cons (ce_var 6) ca_nil) (fun hc ha => pe_callTy hc rfl Fx.z_tuple bt_tuple ha)) ca_nil))))))))))
end
end Lw
namespace Lw
open PySem PySem.Spec PyProof.Rows L2 RZ Dg
section
variable {P : Program} {w : World} {K : PySem.W.Frag} {mg : Str → Option Value} {base : Heap} {ad : Nat → Addr} {fd : Nat → FuncData} {k : Nat} {C : Calls}
theorem ok__law_refused (Fx : Facts K mg w ad fd) (T : Tab P w K mg base ad fd (k + 40) C) : FnOk P w K mg base (L2.CX P w) (k + 41) (ad 8) (fd 8) ["machine"] (spF K mg 1 (runDef 2 (b__law_refused C))) :=
  defD_ok (N := N__law_refused) (ps := ["machine"]) Fx.F8 sc__law_refused (fun cdv A outer s H E G =>
    (css_cons (cs_tryAs (i := 1) G sc__law_refused.nd rfl rfl Fx.x_DoppelError rfl (exm_cons Fx.xm_DoppelError_DoppelError (exm_cons Fx.xm_NotAllowed_DoppelError (exm_cons Fx.xm_TooLarge_DoppelError (fun q hq => nomatch hq))))
    (fun W1 pn xe G => (css_one (cs_expr (ce_def G (Nat.le_refl _) T.G1 (ca_cons (ce_var 0) ca_nil) (fun hx ha => pe_callS T.G1 G.room rfl Fx.m1 Fx.F1.kp Fx.b1 hx ha)))))
    (fun c C a oe pn hcm hc hz hf => (at_and (at_isX (isx_cons Fx.is_DoppelError_NotAllowed (isx_cons Fx.is_NotAllowed_NotAllowed (isx_cons Fx.is_TooLarge_NotAllowed (fun q hq => nomatch hq)))) hc hz hf rfl (Or.inl rfl) rfl rfl Fx.z_isinstance) (at_and (at_isV (isv_cons Fx.iv_DoppelError (isv_cons Fx.iv_NotAllowed (isv_cons Fx.iv_TooLarge (fun q hq => nomatch hq)))) hc hz hf rfl (Or.inl rfl) rfl Fx.z_ValueError rfl Fx.z_isinstance) (at_one (at_not (at_isX (isx_cons Fx.is_DoppelError_TooLarge (isx_cons Fx.is_NotAllowed_TooLarge (isx_cons Fx.is_TooLarge_TooLarge (fun q hq => nomatch hq)))) hc hz hf rfl (Or.inl rfl) rfl rfl Fx.z_isinstance)))))))
    (css_one (cs_ret ce_bl))))
end
end Lw
namespace Lw
open PySem PySem.Spec PyProof.Rows L2 RZ Dg
section
variable {P : Program} {w : World} {K : PySem.W.Frag} {mg : Str → Option Value} {base : Heap} {ad : Nat → Addr} {fd : Nat → FuncData} {k : Nat} {C : Calls}
theorem ok__law_bad (Fx : Facts K mg w ad fd) (T : Tab P w K mg base ad fd (k + 40) C) : FnOk P w K mg base (L2.CX P w) (k + 41) (ad 9) (fd 9) ["machine", "number"] (spF K mg 2 (runDef 8 (b__law_bad C))) :=
  defD_ok (N := N__law_bad) (ps := ["machine", "number"]) Fx.F9 sc__law_bad (fun cdv A outer s H E G =>
    (css_cons (cs_asg (ce_var 0) (cg_tup G.calm (cgs_cons (cg_one (i := 2) sc__law_bad.nd rfl (Or.inl rfl)) (cgs_cons (cg_one (i := 3) sc__law_bad.nd rfl (Or.inl rfl)) (cgs_cons (cg_one (i := 4) sc__law_bad.nd rfl (Or.inl rfl)) cgs_nil)))) (fun he hg => ps_asg he hg))
    (css_cons (cs_set (i := 5) sc__law_bad.nd rfl (Or.inl rfl) (ce_lst (ca_cons (ce_tup (ca_cons (ce_neg ce_int) (ca_cons (ce_tup ca_nil) (ca_cons (ce_tup ca_nil) ca_nil)))) (ca_cons (ce_tup (ca_cons ce_int (ca_cons (ce_tup ca_nil) (ca_cons (ce_tup ca_nil) ca_nil)))) (ca_cons (ce_tup (ca_cons (ce_var 2) (ca_cons (ce_var 3) (ca_cons (ce_op os_add (ce_var 4) (ce_tup (ca_cons ce_bl ca_nil))) ca_nil)))) (ca_cons (ce_tup (ca_cons (ce_var 2) (ca_cons (ce_op os_add (ce_var 3) (ce_op os_mul (ce_tup (ca_cons (ce_tup ca_nil) ca_nil)) ce_int)) (ca_cons (ce_var 4) ca_nil)))) ca_nil))))))
    (css_cons (cs_expr (ce_mtL gs_append (ce_var 5) (ca_cons (ce_tup (ca_cons ce_int (ca_cons (ce_callT cs_tuple rfl Fx.z_tuple bt_tuple (ca_cons (ce_lc (own := [("k", 7)]) G sc__law_bad.nd (blkOk_by (own := [("k", 7)]) (N := N__law_bad) (sc := defScope s__law_bad) (by decide +kernel)) (ci_rg1 rfl Fx.z_range ce_int) (fun s0 H0 C0 cl fp => (cg_one (i := 7) sc__law_bad.nd rfl (Or.inl rfl))) (fun s0 H0 C0 cl fp => cts_nil) (fun s0 H0 C0 cl fp => (ce_tup (ca_cons ce_int ca_nil))) rfl) ca_nil) (fun hc ha => pe_callTy hc rfl Fx.z_tuple bt_tuple ha)) (ca_cons (ce_callT cs_tuple rfl Fx.z_tuple bt_tuple (ca_cons (ce_lc (own := [("k", 7)]) G sc__law_bad.nd (blkOk_by (own := [("k", 7)]) (N := N__law_bad) (sc := defScope s__law_bad) (by decide +kernel)) (ci_rg1 rfl Fx.z_range ce_int) (fun s0 H0 C0 cl fp => (cg_one (i := 7) sc__law_bad.nd rfl (Or.inl rfl))) (fun s0 H0 C0 cl fp => cts_nil) (fun s0 H0 C0 cl fp => ce_bl) rfl) ca_nil) (fun hc ha => pe_callTy hc rfl Fx.z_tuple bt_tuple ha)) ca_nil)))) ca_nil) (fun hm ho ha => pe_bm PySem.F.plainAttrs_list PySem.F.slot_list_append PySem.F.type_list_append hm ho ha)))
    (css_cons (cs_if (CW.ct (cw_and (ct_cmp os_gt (ce_callB cs_len rfl Fx.z_len bt_len (ca_cons (ce_var 3) ca_nil) (fun hc ha => pe_callB hc rfl Fx.z_len bt_len ha)) ce_int (nomark _)) (cw_and1 (ct_cmp os_gt (ce_var 2) ce_int (nomark _))))) (css_cons (cs_set (i := 6) sc__law_bad.nd rfl (Or.inl rfl) (ce_sub G (ce_var 3) (ce_op os_sub (ce_callB cs_len rfl Fx.z_len bt_len (ca_cons (ce_var 3) ca_nil) (fun hc ha => pe_callB hc rfl Fx.z_len bt_len ha)) ce_int)))
    (css_cons (cs_expr (ce_mtL gs_append (ce_var 5) (ca_cons (ce_tup (ca_cons (ce_var 2) (ca_cons (ce_op os_add (ce_slice (ce_var 3) co_none (co_some (ce_neg ce_int))) (ce_tup (ca_cons (ce_slice (ce_var 6) co_none (co_some (ce_neg ce_int))) ca_nil))) (ca_cons (ce_var 4) ca_nil)))) ca_nil) (fun hm ho ha => pe_bm PySem.F.plainAttrs_list PySem.F.slot_list_append PySem.F.type_list_append hm ho ha)))
    (css_cons (cs_expr (ce_mtL gs_append (ce_var 5) (ca_cons (ce_tup (ca_cons (ce_var 2) (ca_cons (ce_op os_add (ce_slice (ce_var 3) co_none (co_some (ce_neg ce_int))) (ce_tup (ca_cons (ce_op os_add (ce_var 6) (ce_tup (ca_cons ce_int ca_nil))) ca_nil))) (ca_cons (ce_var 4) ca_nil)))) ca_nil) (fun hm ho ha => pe_bm PySem.F.plainAttrs_list PySem.F.slot_list_append PySem.F.type_list_append hm ho ha)))
    (css_cons (cs_expr (ce_mtL gs_append (ce_var 5) (ca_cons (ce_tup (ca_cons (ce_var 2) (ca_cons (ce_op os_add (ce_slice (ce_var 3) co_none (co_some (ce_neg ce_int))) (ce_tup (ca_cons (ce_op os_add (ce_tup (ca_cons (ce_callB cs_len rfl Fx.z_len bt_len (ca_cons (ce_var 3) ca_nil) (fun hc ha => pe_callB hc rfl Fx.z_len bt_len ha)) ca_nil)) (ce_slice (ce_var 6) (co_some ce_int) co_none)) ca_nil))) (ca_cons (ce_var 4) ca_nil)))) ca_nil) (fun hm ho ha => pe_bm PySem.F.plainAttrs_list PySem.F.slot_list_append PySem.F.type_list_append hm ho ha)))
    (css_one (cs_expr (ce_mtL gs_append (ce_var 5) (ca_cons (ce_tup (ca_cons (ce_var 2) (ca_cons (ce_op os_add (ce_slice (ce_var 3) co_none (co_some (ce_neg ce_int))) (ce_tup (ca_cons (ce_op os_add (ce_tup (ca_cons (ce_neg ce_int) ca_nil)) (ce_slice (ce_var 6) (co_some ce_int) co_none)) ca_nil))) (ca_cons (ce_var 4) ca_nil)))) ca_nil) (fun hm ho ha => pe_bm PySem.F.plainAttrs_list PySem.F.slot_list_append PySem.F.type_list_append hm ho ha)))))))) css_nil)
    (css_one (cs_ret (ce_sub G (ce_var 5) (ce_op os_mod (ce_var 1) (ce_callB cs_len rfl Fx.z_len bt_len (ca_cons (ce_var 5) ca_nil) (fun hc ha => pe_callB hc rfl Fx.z_len bt_len ha)))))))))))
end
end Lw
namespace Lw
open PySem PySem.Spec PyProof.Rows L2 RZ Dg
section
variable {P : Program} {w : World} {K : PySem.W.Frag} {mg : Str → Option Value} {base : Heap} {ad : Nat → Addr} {fd : Nat → FuncData} {k : Nat} {C : Calls}
theorem ok__law_accepts (Fx : Facts K mg w ad fd) (T : Tab P w K mg base ad fd (k + 40) C) : FnOk P w K mg base (L2.CX P w) (k + 41) (ad 10) (fd 10) ["machine", "word"] (spF K mg 2 (runDef 4 (b__law_accepts C))) :=
  defD_ok (N := N__law_accepts) (ps := ["machine", "word"]) Fx.F10 sc__law_accepts (fun cdv A outer s H E G =>
    (css_cons (cs_set (i := 2) sc__law_accepts.nd rfl (Or.inl rfl) ce_int)
    (css_cons (cs_if (ct_cmp (os_eq G) (ce_callB cs_len rfl Fx.z_len bt_len (ca_cons (ce_sub G (ce_var 0) ce_int) ca_nil) (fun hc ha => pe_callB hc rfl Fx.z_len bt_len ha)) ce_int (nomark _)) (css_one (cs_ret ce_bl)) css_nil)
    (css_cons (cs_for G (ci_seq (ce_var 1)) (cg_one (i := 3) sc__law_accepts.nd rfl (Or.inl rfl)) (css_cons (cs_if (CW.ct (cw_or (ct_cmp os_lt (ce_var 3) ce_int (nomark _)) (cw_or1 (ct_cmp os_ge (ce_var 3) (ce_sub G (ce_var 0) ce_int) (nomark _))))) (css_one (cs_ret ce_bl)) css_nil)
    (css_cons (cs_set (i := 2) sc__law_accepts.nd rfl (Or.inl rfl) (ce_sub G (ce_sub G (ce_sub G (ce_var 0) ce_int) (ce_var 2)) (ce_var 3)))
    (css_one (cs_if (ct_cmp os_lt (ce_var 2) ce_int (nomark _)) (css_one (cs_ret ce_bl)) css_nil)))))
    (css_one (cs_ret (ce_sub G (ce_sub G (ce_var 0) ce_int) (ce_var 2))))))))
end
end Lw
namespace Lw
open PySem PySem.Spec PyProof.Rows L2 RZ Dg
section
variable {P : Program} {w : World} {K : PySem.W.Frag} {mg : Str → Option Value} {base : Heap} {ad : Nat → Addr} {fd : Nat → FuncData} {k : Nat} {C : Calls}
theorem ok__law_count (Fx : Facts K mg w ad fd) (T : Tab P w K mg base ad fd (k + 40) C) : FnOk P w K mg base (L2.CX P w) (k + 41) (ad 11) (fd 11) ["machine", "length"] (spF K mg 2 (runDef 7 (b__law_count C))) :=
  defD_ok (N := N__law_count) (ps := ["machine", "length"]) Fx.F11 sc__law_count (fun cdv A outer s H E G =>
    (css_cons (cs_set (i := 2) sc__law_count.nd rfl (Or.inr rfl) ce_d0)
    (css_cons (cs_if (ct_cmp os_gt (ce_callB cs_len rfl Fx.z_len bt_len (ca_cons (ce_sub G (ce_var 0) ce_int) ca_nil) (fun hc ha => pe_callB hc rfl Fx.z_len bt_len ha)) ce_int (nomark _)) (css_one (cs_store G (ce_var 2) ce_int ce_int (fun ho hi he => ps_asg he (pg_sub ho hi set_list)) (fun ho hi he => ps_dput G.hu ho hi he rfl))) css_nil)
    (css_cons (cs_for G (ci_rg1 rfl Fx.z_range (ce_var 1)) (cg_one (i := 3) sc__law_count.nd rfl (Or.inl rfl)) (css_cons (cs_set (i := 4) sc__law_count.nd rfl (Or.inl rfl) ce_d0)
    (css_cons (cs_for G (ci_seq (ce_callB (cs_sorted G.calm) rfl Fx.z_sorted bt_sorted (ca_cons (ce_var 2) ca_nil) (fun hc ha => pe_callB hc rfl Fx.z_sorted bt_sorted ha))) (cg_one (i := 5) sc__law_count.nd rfl (Or.inl rfl)) (css_one (cs_for G (ci_seq (ce_sub G (ce_sub G (ce_var 0) ce_int) (ce_var 5))) (cg_one (i := 6) sc__law_count.nd rfl (Or.inl rfl)) (css_one (cs_if (ct_cmp os_ge (ce_var 6) ce_int (nomark _)) (css_one (cs_store G (ce_var 4) (ce_var 6) (ce_op os_add (ce_get G (ce_var 4) (ce_var 6) ce_int ⟨rfl, rfl, rfl, rfl⟩) (ce_sub G (ce_var 2) (ce_var 5))) (fun ho hi he => ps_asg he (pg_sub ho hi set_list)) (fun ho hi he => ps_dput G.hu ho hi he rfl))) css_nil)))))
    (css_one (cs_set (i := 2) sc__law_count.nd rfl (Or.inr rfl) (ce_var 4))))))
    (css_one (cs_ret (ce_callB (cs_sum G.calm) rfl Fx.z_sum bt_sum (ca_cons (ce_lc (own := [("state", 5)]) G sc__law_count.nd (blkOk_by (own := [("state", 5)]) (N := N__law_count) (sc := defScope s__law_count) (by decide +kernel)) (ci_seq (ce_callB (cs_sorted G.calm) rfl Fx.z_sorted bt_sorted (ca_cons (ce_var 2) ca_nil) (fun hc ha => pe_callB hc rfl Fx.z_sorted bt_sorted ha))) (fun s0 H0 C0 cl fp => (cg_one (i := 5) sc__law_count.nd rfl (Or.inl rfl))) (fun s0 H0 C0 cl fp => have G := Good.blk (s := s0) (H := H0) (fp := fp) G; (cts_one (ct_val (ce_sub G (ce_sub G (ce_var 0) ce_int) (ce_var 5))))) (fun s0 H0 C0 cl fp => have G := Good.blk (s := s0) (H := H0) (fp := fp) G; (ce_sub G (ce_var 2) (ce_var 5))) rfl) ca_nil) (fun hc ha => pe_callB hc rfl Fx.z_sum bt_sum ha))))))))
end
end Lw
namespace Lw
open PySem PySem.Spec PyProof.Rows L2 RZ Dg
section
variable {P : Program} {w : World} {K : PySem.W.Frag} {mg : Str → Option Value} {base : Heap} {ad : Nat → Addr} {fd : Nat → FuncData} {k : Nat} {C : Calls}
theorem ok__law_lengths (Fx : Facts K mg w ad fd) (T : Tab P w K mg base ad fd (k + 40) C) : FnOk P w K mg base (L2.CX P w) (k + 41) (ad 12) (fd 12) ["machine"] (spF K mg 1 (runDef 3 (b__law_lengths C))) :=
  defD_ok (N := N__law_lengths) (ps := ["machine"]) Fx.F12 sc__law_lengths (fun cdv A outer s H E G =>
    (css_cons (cs_set (i := 1) sc__law_lengths.nd rfl (Or.inl rfl) ce_int)
    (css_cons (cs_for G (ci_seq (ce_lst (ca_cons (ce_neg ce_int) (ca_cons ce_int (ca_cons ce_int ca_nil))))) (cg_one (i := 2) sc__law_lengths.nd rfl (Or.inl rfl)) (css_one (cs_tryN G Fx.x_NotAllowed rfl (exm_cons Fx.xm_DoppelError_NotAllowed (exm_cons Fx.xm_NotAllowed_NotAllowed (exm_cons Fx.xm_TooLarge_NotAllowed (fun q hq => nomatch hq))))
    (fun W1 pn xe G => (css_one (cs_expr (ce_def G (Nat.le_refl _) T.G5 (ca_cons (ce_var 0) (ca_cons (ce_var 2) ca_nil)) (fun hx ha => pe_callS T.G5 G.room rfl Fx.m5 Fx.F5.kp Fx.b5 hx ha)))))
    (fun a oe cls d pn hz hf => (css_one (cs_set (i := 1) sc__law_lengths.nd rfl (Or.inl rfl) (ce_op os_add (ce_var 1) ce_int)))))))
    (css_one (cs_ret (ce_cmp (os_eq G) (ce_var 1) ce_int (nomark _)))))))
end
end Lw
namespace Lw
open PySem PySem.Spec PyProof.Rows L2 RZ Dg
section
variable {P : Program} {w : World} {K : PySem.W.Frag} {mg : Str → Option Value} {base : Heap} {ad : Nat → Addr} {fd : Nat → FuncData} {k : Nat} {C : Calls}
theorem ok_law (Fx : Facts K mg w ad fd) (T : Tab P w K mg base ad fd (k + 40) C) : FnOk P w K mg base (L2.CX P w) (k + 41) (ad 13) (fd 13) ["script"] (spF K mg 1 (runDef 8 (b_law C))) :=
  defD_ok (N := N_law) (ps := ["script"]) Fx.F13 sc_law (fun cdv A outer s H E G =>
    (css_cons (cs_set (i := 1) sc_law.nd rfl (Or.inr rfl) (ce_def G (Nat.le_refl _) T.G6 (ca_cons (ce_var 0) (ca_cons ce_int ca_nil)) (fun hx ha => pe_callS T.G6 G.room rfl Fx.m6 Fx.F6.kp Fx.b6 hx ha)))
    (css_cons (cs_set (i := 2) sc_law.nd rfl (Or.inr rfl) (ce_def G (Nat.le_refl _) T.G7 (ca_cons (ce_var 1) (ca_cons ce_int (ca_cons (ce_op os_mod (ce_sub G (ce_var 1) ce_int) ce_int) (ca_cons (ce_op os_mod (ce_sub G (ce_var 1) ce_int) ce_int) (ca_cons (ce_op os_mod (ce_sub G (ce_var 1) ce_int) ce_int) ca_nil))))) (fun hx ha => pe_callS T.G7 G.room rfl Fx.m7 Fx.F7.kp Fx.b7 hx ha)))
    (css_cons (cs_if (ct_cmp (os_eq G) (ce_op os_mod (ce_sub G (ce_var 1) ce_int) ce_int) ce_int (nomark _)) (css_one (cs_set (i := 2) sc_law.nd rfl (Or.inr rfl) (ce_def G (Nat.le_refl _) T.G7 (ca_cons (ce_var 1) (ca_cons ce_int (ca_cons ce_int (ca_cons (ce_op os_add ce_int (ce_op os_mod (ce_sub G (ce_var 1) ce_int) ce_int)) (ca_cons ce_int ca_nil))))) (fun hx ha => pe_callS T.G7 G.room rfl Fx.m7 Fx.F7.kp Fx.b7 hx ha)))) css_nil)
    (css_cons (cs_if (ct_cmp (os_eq G) (ce_op os_mod (ce_sub G (ce_var 1) ce_int) ce_int) ce_int (nomark _)) (css_one (cs_set (i := 2) sc_law.nd rfl (Or.inr rfl) (ce_def G (Nat.le_refl _) T.G7 (ca_cons (ce_var 1) (ca_cons ce_int (ca_cons (ce_op os_add ce_int (ce_op os_mod (ce_sub G (ce_var 1) ce_int) ce_int)) (ca_cons ce_int (ca_cons ce_int ca_nil))))) (fun hx ha => pe_callS T.G7 G.room rfl Fx.m7 Fx.F7.kp Fx.b7 hx ha)))) css_nil)
    (css_cons (cs_if (CW.ct (cw_or (ct_cmp os_notN (ce_def G (Nat.le_refl _) T.G1 (ca_cons (ce_var 2) ca_nil) (fun hx ha => pe_callS T.G1 G.room rfl Fx.m1 Fx.F1.kp Fx.b1 hx ha)) ce_non (nomark _)) (cw_or1 (ct_not (ct_val (ce_def G (Nat.le_refl _) T.G8 (ca_cons (ce_def G (Nat.le_refl _) T.G9 (ca_cons (ce_var 2) (ca_cons (ce_sub G (ce_var 1) ce_int) ca_nil)) (fun hx ha => pe_callS T.G9 G.room rfl Fx.m9 Fx.F9.kp Fx.b9 hx ha)) ca_nil) (fun hx ha => pe_callS T.G8 G.room rfl Fx.m8 Fx.F8.kp Fx.b8 hx ha))))))) (css_one (cs_ret ce_bl)) css_nil)
    (css_cons (cs_for G (ci_rg1 rfl Fx.z_range ce_int) (cg_one (i := 3) sc_law.nd rfl (Or.inr rfl)) (css_cons (cs_setLc (i := 4) (own := [("j", 7)]) G sc_law.nd rfl rfl (sw_true rfl rfl rfl (by decide +kernel)) (blkOk_by (own := [("j", 7)]) (N := N_law) (sc := defScope s_law) (by decide +kernel)) (ci_rg1 rfl Fx.z_range (ce_op os_mod (ce_sub G (ce_var 1) (ce_op os_add ce_int (ce_var 3))) ce_int)) (fun s0 H0 C0 cl fp => (cg_one (i := 7) sc_law.nd rfl (Or.inl rfl))) (fun s0 H0 C0 cl fp => cts_nil) (fun s0 H0 C0 cl fp => have G := Good.blk (s := s0) (H := H0) (fp := fp) G; (ce_op os_mod (ce_op os_fdiv (ce_sub G (ce_var 1) (ce_op os_add ce_int (ce_var 3))) (ce_op os_add ce_int (ce_var 7))) (ce_op os_add (ce_sub G (ce_var 2) ce_int) ce_int))) rfl (fun hi hg ht he => ps_setLc (i := 4) (own := [("j", 7)]) G.calm sc_law.nd rfl rfl (sw_true rfl rfl rfl (by decide +kernel)) hi (blkOk_by (own := [("j", 7)]) (N := N_law) (sc := defScope s_law) (by decide +kernel)) hg ht he))
    (css_cons (cs_if (ct_cmp (os_eq G) (ce_op os_mod (ce_op os_fdiv (ce_sub G (ce_var 1) (ce_op os_add ce_int (ce_var 3))) ce_int) ce_int) ce_int (nomark _)) (css_one (cs_set (i := 4) sc_law.nd rfl (Or.inl rfl) (ce_op os_add (ce_var 4) (ce_lst (ca_cons (ce_neg ce_int) ca_nil))))) css_nil)
    (css_cons (cs_set (i := 5) sc_law.nd rfl (Or.inl rfl) (ce_def G (Nat.le_refl _) T.G2 (ca_cons (ce_var 2) (ca_cons (ce_callT cs_list rfl Fx.z_list bt_list (ca_cons (ce_var 4) ca_nil) (fun hc ha => pe_callTy hc rfl Fx.z_list bt_list ha)) ca_nil)) (fun hx ha => pe_callS T.G2 G.room rfl Fx.m2 Fx.F2.kp Fx.b2 hx ha)))
    (css_one (cs_if (CW.ct (cw_or (ct_not (ct_val (ce_isi kt_bool (ce_var 5) (pe_bltn rfl Fx.z_bool bt_bool rfl) (fun hc ha => pe_callB hc rfl Fx.z_isinstance bt_isinstance ha)))) (cw_or1 (ct_cmp (os_ne G) (ce_var 5) (ce_def G (Nat.le_refl _) T.G10 (ca_cons (ce_var 2) (ca_cons (ce_var 4) ca_nil)) (fun hx ha => pe_callS T.G10 G.room rfl Fx.m10 Fx.F10.kp Fx.b10 hx ha)) (nomark _))))) (css_one (cs_ret ce_bl)) css_nil))))))
    (css_cons (cs_set (i := 6) sc_law.nd rfl (Or.inl rfl) (ce_sub G (ce_lst (ca_cons (ce_op os_mod (ce_sub G (ce_var 1) ce_int) ce_int) (ca_cons (ce_op os_mod (ce_sub G (ce_var 1) ce_int) ce_int) ca_nil))) (ce_callT cs_int rfl Fx.z_int bt_int (ca_cons (ce_and (ce_cmp (os_eq G) (ce_op os_mod (ce_op os_fdiv (ce_sub G (ce_var 1) ce_int) ce_int) ce_int) ce_int (nomark _)) (ce_one (ce_cmp os_lt (ce_callB cs_len rfl Fx.z_len bt_len (ca_cons (ce_sub G (ce_var 2) ce_int) ca_nil) (fun hc ha => pe_callB hc rfl Fx.z_len bt_len ha)) ce_int (nomark _)))) ca_nil) (fun hc ha => pe_callTy hc rfl Fx.z_int bt_int ha))))
    (css_cons (cs_set (i := 5) sc_law.nd rfl (Or.inl rfl) (ce_def G (Nat.le_refl _) T.G5 (ca_cons (ce_var 2) (ca_cons (ce_var 6) ca_nil)) (fun hx ha => pe_callS T.G5 G.room rfl Fx.m5 Fx.F5.kp Fx.b5 hx ha)))
    (css_cons (cs_if (CW.ct (cw_or (ct_val (ce_isi kt_bool (ce_var 5) (pe_bltn rfl Fx.z_bool bt_bool rfl) (fun hc ha => pe_callB hc rfl Fx.z_isinstance bt_isinstance ha))) (cw_or (ct_cmp (os_ne G) (ce_var 5) (ce_def G (Nat.le_refl _) T.G11 (ca_cons (ce_var 2) (ca_cons (ce_var 6) ca_nil)) (fun hx ha => pe_callS T.G11 G.room rfl Fx.m11 Fx.F11.kp Fx.b11 hx ha)) (nomark _)) (cw_or1 (ct_not (ct_val (ce_def G (Nat.le_refl _) T.G12 (ca_cons (ce_var 2) ca_nil) (fun hx ha => pe_callS T.G12 G.room rfl Fx.m12 Fx.F12.kp Fx.b12 hx ha)))))))) (css_one (cs_ret ce_bl)) css_nil)
    (css_one (cs_ret (ce_cmp (os_eq G) (ce_lst (ca_cons (ce_globC rfl Fx.c_MAX_SIGNS) (ca_cons (ce_globC rfl Fx.c_MAX_MACHINE) (ca_cons (ce_globC rfl Fx.c_MAX_PAIRS) (ca_cons (ce_globC rfl Fx.c_MAX_COUNT) ca_nil))))) (ce_lst (ca_cons ce_int (ca_cons ce_int (ca_cons ce_int (ca_cons ce_int ca_nil))))) (nomark _))))))))))))))
end
end Lw
namespace Lw
open PySem PySem.Spec PyProof.Rows L2 RZ Dg
section
variable {P : Program} {w : World} {K : PySem.W.Frag} {mg : Str → Option Value} {base : Heap} {ad : Nat → Addr} {fd : Nat → FuncData} {k : Nat} {C : Calls}
theorem tab_0 (ad : Nat → Addr) (fd : Nat → FuncData) : Tab P w K mg base ad fd 40 (call 0) := ⟨fn_bad, fn_bad, fn_bad, fn_bad, fn_bad, fn_bad, fn_bad, fn_bad, fn_bad, fn_bad, fn_bad, fn_bad, fn_bad, fn_bad⟩
theorem tab_s (Fx : Facts K mg w ad fd) (T : Tab P w K mg base ad fd (k + 40) (call k)) : Tab P w K mg base ad fd (k + 41) (call (k + 1)) :=
  ⟨ok_are_moves Fx T, ok_check_machine Fx T, ok_accepts Fx T, ok_ways_of Fx T, ok_counts_behind Fx T, ok_count_words Fx T, ok__law_numbers Fx T, ok__law_machine Fx T, ok__law_refused Fx T, ok__law_bad Fx T, ok__law_accepts Fx T, ok__law_count Fx T, ok__law_lengths Fx T, ok_law Fx T⟩
theorem tab (Fx : Facts K mg w ad fd) : ∀ k : Nat, Tab P w K mg base ad fd (k + 40) (call k)
  | 0 => tab_0 ad fd
  | k + 1 => by
    have h := tab_s Fx (tab Fx k)
    rw [show k + 1 + 40 = k + 41 by omega]
    exact h
end
end Lw
namespace Lw
open PySem PySem.Spec PyProof.Rows L2 RZ Dg
def d_are_moves : He.DefD := ⟨("are_moves", none), "are_moves", "are_moves", defArgs s_are_moves, defBody s_are_moves, defScope s_are_moves, [], []⟩
def d_check_machine : He.DefD := ⟨("check_machine", none), "check_machine", "check_machine", defArgs s_check_machine, defBody s_check_machine, defScope s_check_machine, [], []⟩
def d_accepts : He.DefD := ⟨("accepts", none), "accepts", "accepts", defArgs s_accepts, defBody s_accepts, defScope s_accepts, [], []⟩
def d_ways_of : He.DefD := ⟨("ways_of", none), "ways_of", "ways_of", defArgs s_ways_of, defBody s_ways_of, defScope s_ways_of, [], []⟩
def d_counts_behind : He.DefD := ⟨("counts_behind", none), "counts_behind", "counts_behind", defArgs s_counts_behind, defBody s_counts_behind, defScope s_counts_behind, [], []⟩
def d_count_words : He.DefD := ⟨("count_words", none), "count_words", "count_words", defArgs s_count_words, defBody s_count_words, defScope s_count_words, [], []⟩
def d__law_numbers : He.DefD := ⟨("_law_numbers", none), "_law_numbers", "_law_numbers", defArgs s__law_numbers, defBody s__law_numbers, defScope s__law_numbers, [], []⟩
def d__law_machine : He.DefD := ⟨("_law_machine", none), "_law_machine", "_law_machine", defArgs s__law_machine, defBody s__law_machine, defScope s__law_machine, [], []⟩
def d__law_refused : He.DefD := ⟨("_law_refused", none), "_law_refused", "_law_refused", defArgs s__law_refused, defBody s__law_refused, defScope s__law_refused, [], []⟩
def d__law_bad : He.DefD := ⟨("_law_bad", none), "_law_bad", "_law_bad", defArgs s__law_bad, defBody s__law_bad, defScope s__law_bad, [], []⟩
def d__law_accepts : He.DefD := ⟨("_law_accepts", none), "_law_accepts", "_law_accepts", defArgs s__law_accepts, defBody s__law_accepts, defScope s__law_accepts, [], []⟩
def d__law_count : He.DefD := ⟨("_law_count", none), "_law_count", "_law_count", defArgs s__law_count, defBody s__law_count, defScope s__law_count, [], []⟩
def d__law_lengths : He.DefD := ⟨("_law_lengths", none), "_law_lengths", "_law_lengths", defArgs s__law_lengths, defBody s__law_lengths, defScope s__law_lengths, [], []⟩
def d_law : He.DefD := ⟨("law", none), "law", "law", defArgs s_law, defBody s_law, defScope s_law, [], []⟩
def hfn : List He.DefD := [d_are_moves, d_check_machine, d_accepts, d_ways_of, d_counts_behind, d_count_words, d__law_numbers, d__law_machine, d__law_refused, d__law_bad, d__law_accepts, d__law_count, d__law_lengths, d_law]
def hfa : List He.Fa := [.glo "are_moves", .glo "check_machine", .glo "accepts", .glo "ways_of", .glo "counts_behind", .glo "count_words", .glo "_law_numbers", .glo "_law_machine", .glo "_law_refused", .glo "_law_bad", .glo "_law_accepts", .glo "_law_count", .glo "_law_lengths", .glo "law", .free "ValueError", .free "abs", .free "all", .free "bool", .free "int", .free "isinstance", .free "len", .free "list", .free "max", .free "range", .free "sorted", .free "sum", .free "tuple", .glo "DoppelError", .glo "NotAllowed", .glo "TooLarge", .exc "DoppelError", .exc "NotAllowed", .exm "DoppelError" "DoppelError" true, .exm "DoppelError" "NotAllowed" false, .exm "NotAllowed" "DoppelError" true, .exm "NotAllowed" "NotAllowed" true, .exm "TooLarge" "DoppelError" true, .exm "TooLarge" "NotAllowed" false]
def hts : List He.Tab := []
def hfu : List FaU := [.con "MAX_COUNT" (.int 100), .con "MAX_MACHINE" (.int 400), .con "MAX_PAIRS" (.int 4000), .con "MAX_SIGNS" (.int 200), .isx "DoppelError" "NotAllowed" false, .isx "DoppelError" "TooLarge" false, .isx "NotAllowed" "NotAllowed" true, .isx "NotAllowed" "TooLarge" false, .isx "TooLarge" "NotAllowed" false, .isx "TooLarge" "TooLarge" true, .isv "DoppelError" "ValueError" true, .isv "NotAllowed" "ValueError" true, .isv "TooLarge" "ValueError" true]
abbrev R : PySem.W.OpenRow := PySem.W.OpenLaw.row PySem.Challenge.rw_doppelganger_k26_machines_checked
abbrev hk : PySem.W.Hook := hookU 5 hfa hfn hts hfu
def ob (s : PySem.W.SharedT) : AlU := obsUG 5 hfa hfn hts hfu (HandSHeadRun.getT s)
theorem ob_eq (s : PySem.W.SharedT) : ob s = hk.obs s.abs := obsUG_eq (HandSHeadRun.getT_eq s)
def hloose : List PySem.Str := (["DoppelError", "NotAllowed", "TooLarge", "MAX_SIGNS", "MAX_MACHINE", "MAX_PAIRS", "MAX_COUNT", "are_moves", "check_machine", "accepts", "ways_of", "counts_behind", "count_words", "_law_numbers", "_law_machine", "_law_refused"] : List PySem.Str) ++ (["_law_bad", "_law_accepts", "_law_count", "_law_lengths"] : List PySem.Str)
theorem run (w : World) : HandSHeadRun.RunEq R (PySem.W.view R.prog [23]) hk ob 4000 hloose w :=
  PySem.W.byRow2 "special-get-raises" (P := fun w => HandSHeadRun.RunEq R (PySem.W.view R.prog [23]) hk ob 4000 hloose w)
    (fun w => by
      intro os
      kernel_rfl) (fun w => by
      intro os
      kernel_rfl) w
def adOf (K : PySem.W.Frag) : Nat → Addr
  | 0 => He.ga K "are_moves"
  | 1 => He.ga K "check_machine"
  | 2 => He.ga K "accepts"
  | 3 => He.ga K "ways_of"
  | 4 => He.ga K "counts_behind"
  | 5 => He.ga K "count_words"
  | 6 => He.ga K "_law_numbers"
  | 7 => He.ga K "_law_machine"
  | 8 => He.ga K "_law_refused"
  | 9 => He.ga K "_law_bad"
  | 10 => He.ga K "_law_accepts"
  | 11 => He.ga K "_law_count"
  | 12 => He.ga K "_law_lengths"
  | 13 => He.ga K "law"
  | _ => 0
theorem facts {w : World} {K : PySem.W.Frag} {h : Heap} {mg : Str → Option Value} (X : K.In h) (G : h.Ns mainGlobals mg) (c : SaysU hfa hfn hts hfu w K) : ∃ fd : Nat → FuncData, Facts K mg w (adOf K) fd := by
  obtain ⟨f0, F0⟩ := c.t.d.def_ 0 (d := d_are_moves) rfl
  obtain ⟨f1, F1⟩ := c.t.d.def_ 1 (d := d_check_machine) rfl
  obtain ⟨f2, F2⟩ := c.t.d.def_ 2 (d := d_accepts) rfl
  obtain ⟨f3, F3⟩ := c.t.d.def_ 3 (d := d_ways_of) rfl
  obtain ⟨f4, F4⟩ := c.t.d.def_ 4 (d := d_counts_behind) rfl
  obtain ⟨f5, F5⟩ := c.t.d.def_ 5 (d := d_count_words) rfl
  obtain ⟨f6, F6⟩ := c.t.d.def_ 6 (d := d__law_numbers) rfl
  obtain ⟨f7, F7⟩ := c.t.d.def_ 7 (d := d__law_machine) rfl
  obtain ⟨f8, F8⟩ := c.t.d.def_ 8 (d := d__law_refused) rfl
  obtain ⟨f9, F9⟩ := c.t.d.def_ 9 (d := d__law_bad) rfl
  obtain ⟨f10, F10⟩ := c.t.d.def_ 10 (d := d__law_accepts) rfl
  obtain ⟨f11, F11⟩ := c.t.d.def_ 11 (d := d__law_count) rfl
  obtain ⟨f12, F12⟩ := c.t.d.def_ 12 (d := d__law_lengths) rfl
  obtain ⟨f13, F13⟩ := c.t.d.def_ 13 (d := d_law) rfl
  refine ⟨fun i => match i with
    | 0 => f0
    | 1 => f1
    | 2 => f2
    | 3 => f3
    | 4 => f4
    | 5 => f5
    | 6 => f6
    | 7 => f7
    | 8 => f8
    | 9 => f9
    | 10 => f10
    | 11 => f11
    | 12 => f12
    | 13 => f13
    | _ => f0, ?_⟩
  exact {
    F0 := F0
    b0 := FunD.bindsN F0 fun _ _ _ _ _ _ us hl => match us, hl with | [_, _, _], _ => rfl
    m0 := He.glo_ok X G (c.t.d.fact 0 (f := .glo "are_moves") rfl)
    F1 := F1
    b1 := FunD.bindsN F1 fun _ _ _ _ _ _ us hl => match us, hl with | [_], _ => rfl
    m1 := He.glo_ok X G (c.t.d.fact 1 (f := .glo "check_machine") rfl)
    F2 := F2
    b2 := FunD.bindsN F2 fun _ _ _ _ _ _ us hl => match us, hl with | [_, _], _ => rfl
    m2 := He.glo_ok X G (c.t.d.fact 2 (f := .glo "accepts") rfl)
    F3 := F3
    b3 := FunD.bindsN F3 fun _ _ _ _ _ _ us hl => match us, hl with | [_], _ => rfl
    m3 := He.glo_ok X G (c.t.d.fact 3 (f := .glo "ways_of") rfl)
    F4 := F4
    b4 := FunD.bindsN F4 fun _ _ _ _ _ _ us hl => match us, hl with | [_, _], _ => rfl
    m4 := He.glo_ok X G (c.t.d.fact 4 (f := .glo "counts_behind") rfl)
    F5 := F5
    b5 := FunD.bindsN F5 fun _ _ _ _ _ _ us hl => match us, hl with | [_, _], _ => rfl
    m5 := He.glo_ok X G (c.t.d.fact 5 (f := .glo "count_words") rfl)
    F6 := F6
    b6 := FunD.bindsN F6 fun _ _ _ _ _ _ us hl => match us, hl with | [_, _], _ => rfl
    m6 := He.glo_ok X G (c.t.d.fact 6 (f := .glo "_law_numbers") rfl)
    F7 := F7
    b7 := FunD.bindsN F7 fun _ _ _ _ _ _ us hl => match us, hl with | [_, _, _, _, _], _ => rfl
    m7 := He.glo_ok X G (c.t.d.fact 7 (f := .glo "_law_machine") rfl)
    F8 := F8
    b8 := FunD.bindsN F8 fun _ _ _ _ _ _ us hl => match us, hl with | [_], _ => rfl
    m8 := He.glo_ok X G (c.t.d.fact 8 (f := .glo "_law_refused") rfl)
    F9 := F9
    b9 := FunD.bindsN F9 fun _ _ _ _ _ _ us hl => match us, hl with | [_, _], _ => rfl
    m9 := He.glo_ok X G (c.t.d.fact 9 (f := .glo "_law_bad") rfl)
    F10 := F10
    b10 := FunD.bindsN F10 fun _ _ _ _ _ _ us hl => match us, hl with | [_, _], _ => rfl
    m10 := He.glo_ok X G (c.t.d.fact 10 (f := .glo "_law_accepts") rfl)
    F11 := F11
    b11 := FunD.bindsN F11 fun _ _ _ _ _ _ us hl => match us, hl with | [_, _], _ => rfl
    m11 := He.glo_ok X G (c.t.d.fact 11 (f := .glo "_law_count") rfl)
    F12 := F12
    b12 := FunD.bindsN F12 fun _ _ _ _ _ _ us hl => match us, hl with | [_], _ => rfl
    m12 := He.glo_ok X G (c.t.d.fact 12 (f := .glo "_law_lengths") rfl)
    F13 := F13
    b13 := FunD.bindsN F13 fun _ _ _ _ _ _ us hl => match us, hl with | [_], _ => rfl
    m13 := He.glo_ok X G (c.t.d.fact 13 (f := .glo "law") rfl)
    z_ValueError := He.free_ok X G (c.t.d.fact 14 (f := .free "ValueError") rfl)
    z_abs := He.free_ok X G (c.t.d.fact 15 (f := .free "abs") rfl)
    z_all := He.free_ok X G (c.t.d.fact 16 (f := .free "all") rfl)
    z_bool := He.free_ok X G (c.t.d.fact 17 (f := .free "bool") rfl)
    z_int := He.free_ok X G (c.t.d.fact 18 (f := .free "int") rfl)
    z_isinstance := He.free_ok X G (c.t.d.fact 19 (f := .free "isinstance") rfl)
    z_len := He.free_ok X G (c.t.d.fact 20 (f := .free "len") rfl)
    z_list := He.free_ok X G (c.t.d.fact 21 (f := .free "list") rfl)
    z_max := He.free_ok X G (c.t.d.fact 22 (f := .free "max") rfl)
    z_range := He.free_ok X G (c.t.d.fact 23 (f := .free "range") rfl)
    z_sorted := He.free_ok X G (c.t.d.fact 24 (f := .free "sorted") rfl)
    z_sum := He.free_ok X G (c.t.d.fact 25 (f := .free "sum") rfl)
    z_tuple := He.free_ok X G (c.t.d.fact 26 (f := .free "tuple") rfl)
    c_MAX_COUNT := con_ok X G (c.f 0 (f := .con "MAX_COUNT" (.int 100)) rfl)
    c_MAX_MACHINE := con_ok X G (c.f 1 (f := .con "MAX_MACHINE" (.int 400)) rfl)
    c_MAX_PAIRS := con_ok X G (c.f 2 (f := .con "MAX_PAIRS" (.int 4000)) rfl)
    c_MAX_SIGNS := con_ok X G (c.f 3 (f := .con "MAX_SIGNS" (.int 200)) rfl)
    x_DoppelError := exn_ok X G (c.t.d.fact 27 (f := .glo "DoppelError") rfl) (c.t.d.fact 30 (f := .exc "DoppelError") rfl)
    x_NotAllowed := exn_ok X G (c.t.d.fact 28 (f := .glo "NotAllowed") rfl) (c.t.d.fact 31 (f := .exc "NotAllowed") rfl)
    xm_DoppelError_DoppelError := exmF_ok X G (c.t.d.fact 27 (f := .glo "DoppelError") rfl) (c.t.d.fact 27 (f := .glo "DoppelError") rfl) (c.t.d.fact 32 (f := .exm "DoppelError" "DoppelError" true) rfl)
    xm_DoppelError_NotAllowed := exmF_ok X G (c.t.d.fact 27 (f := .glo "DoppelError") rfl) (c.t.d.fact 28 (f := .glo "NotAllowed") rfl) (c.t.d.fact 33 (f := .exm "DoppelError" "NotAllowed" false) rfl)
    xm_NotAllowed_DoppelError := exmF_ok X G (c.t.d.fact 28 (f := .glo "NotAllowed") rfl) (c.t.d.fact 27 (f := .glo "DoppelError") rfl) (c.t.d.fact 34 (f := .exm "NotAllowed" "DoppelError" true) rfl)
    xm_NotAllowed_NotAllowed := exmF_ok X G (c.t.d.fact 28 (f := .glo "NotAllowed") rfl) (c.t.d.fact 28 (f := .glo "NotAllowed") rfl) (c.t.d.fact 35 (f := .exm "NotAllowed" "NotAllowed" true) rfl)
    xm_TooLarge_DoppelError := exmF_ok X G (c.t.d.fact 29 (f := .glo "TooLarge") rfl) (c.t.d.fact 27 (f := .glo "DoppelError") rfl) (c.t.d.fact 36 (f := .exm "TooLarge" "DoppelError" true) rfl)
    xm_TooLarge_NotAllowed := exmF_ok X G (c.t.d.fact 29 (f := .glo "TooLarge") rfl) (c.t.d.fact 28 (f := .glo "NotAllowed") rfl) (c.t.d.fact 37 (f := .exm "TooLarge" "NotAllowed" false) rfl)
    is_DoppelError_NotAllowed := isxF_ok X G (c.t.d.fact 27 (f := .glo "DoppelError") rfl) (c.t.d.fact 28 (f := .glo "NotAllowed") rfl) (c.f 4 (f := .isx "DoppelError" "NotAllowed" false) rfl)
    is_DoppelError_TooLarge := isxF_ok X G (c.t.d.fact 27 (f := .glo "DoppelError") rfl) (c.t.d.fact 29 (f := .glo "TooLarge") rfl) (c.f 5 (f := .isx "DoppelError" "TooLarge" false) rfl)
    is_NotAllowed_NotAllowed := isxF_ok X G (c.t.d.fact 28 (f := .glo "NotAllowed") rfl) (c.t.d.fact 28 (f := .glo "NotAllowed") rfl) (c.f 6 (f := .isx "NotAllowed" "NotAllowed" true) rfl)
    is_NotAllowed_TooLarge := isxF_ok X G (c.t.d.fact 28 (f := .glo "NotAllowed") rfl) (c.t.d.fact 29 (f := .glo "TooLarge") rfl) (c.f 7 (f := .isx "NotAllowed" "TooLarge" false) rfl)
    is_TooLarge_NotAllowed := isxF_ok X G (c.t.d.fact 29 (f := .glo "TooLarge") rfl) (c.t.d.fact 28 (f := .glo "NotAllowed") rfl) (c.f 8 (f := .isx "TooLarge" "NotAllowed" false) rfl)
    is_TooLarge_TooLarge := isxF_ok X G (c.t.d.fact 29 (f := .glo "TooLarge") rfl) (c.t.d.fact 29 (f := .glo "TooLarge") rfl) (c.f 9 (f := .isx "TooLarge" "TooLarge" true) rfl)
    iv_DoppelError := isvF_ok X G (c.t.d.fact 27 (f := .glo "DoppelError") rfl) (c.f 10 (f := .isv "DoppelError" "ValueError" true) rfl)
    iv_NotAllowed := isvF_ok X G (c.t.d.fact 28 (f := .glo "NotAllowed") rfl) (c.f 11 (f := .isv "NotAllowed" "ValueError" true) rfl)
    iv_TooLarge := isvF_ok X G (c.t.d.fact 29 (f := .glo "TooLarge") rfl) (c.f 12 (f := .isv "TooLarge" "ValueError" true) rfl)
  }
end Lw
namespace Lw
open PySem PySem.Spec PyProof.Rows L2 RZ Dg
section
variable {s : Slots} {μ : Mem} {Q : U → Mem → Prop} {E : Str → Mem → Prop}
theorem w_powI {i j : Int} : wpE (uPow (.int i) (.int j) μ) Q E = ((0 ≤ j ∧ j ≤ 1000000 ∧ i.natAbs < 2 ^ 64) ∧ Q (.int (i ^ j.toNat)) μ) := by
  show wpE (if 0 ≤ j ∧ j ≤ 1000000 ∧ i.natAbs < 2 ^ 64 then _ else _) Q E = _
  split
  · rename_i h; simp only [h, wpE, true_and]
  · rename_i h; simp only [h, wpE, false_and]
theorem w_isi {T : String} {a : FE} : wpE (fIsi T a s μ) Q E = wpE (a s μ) (fun u μ1 => ∃ t, tyU μ1 u = some t ∧ Q (.bl (isTy T t)) μ1) E := by
  unfold fIsi; rw [w_bind]; congr 1; funext u μ1
  cases tyU μ1 u <;> simp [wpE]
theorem w_neg {a : FE} : wpE (fNeg a s μ) Q E = wpE (a s μ) (fun u μ1 => ∃ i, u = .int i ∧ Q (.int (-i)) μ1) E := by
  unfold fNeg; rw [w_bind]; congr 1; funext u μ1
  cases u <;> simp [wpE]
theorem w_andE {a b : FE} : wpE (fAnd a b s μ) Q E = wpE (a s μ) (fun u μ1 => ∃ c, u = .bl c ∧ if c = true then wpE (b s μ1) Q E else Q (.bl false) μ1) E := by
  unfold fAnd; rw [w_bind]; congr 1; funext u μ1
  cases u with
  | bl c => cases c <;> simp [wpE]
  | _ => simp [wpE]
theorem w_orE {a b : FE} : wpE (fOr a b s μ) Q E = wpE (a s μ) (fun u μ1 => ∃ c, u = .bl c ∧ if c = true then Q (.bl true) μ1 else wpE (b s μ1) Q E) E := by
  unfold fOr; rw [w_bind]; congr 1; funext u μ1
  cases u with
  | bl c => cases c <;> simp [wpE]
  | _ => simp [wpE]
theorem w_notE {a : FE} : wpE (fNot a s μ) Q E = wpE (a s μ) (fun u μ1 => ∃ c, u = .bl c ∧ Q (.bl (!c)) μ1) E := by
  unfold fNot; rw [w_bind]; congr 1; funext u μ1
  cases u <;> simp [wpE]
theorem w_chain {f g : U → U → Mem → Res U} {a b c : FE} : wpE (fChain f g a b c s μ) Q E = wpE (a s μ) (fun x μ1 => wpE (b s μ1) (fun y μ2 => wpE (f x y μ2) (fun z μ3 => ∃ t, z = .bl t ∧ if t = true then wpE (c s μ3) (fun w μ4 => wpE (g y w μ4) Q E) E else Q (.bl false) μ3) E) E) E := by
  unfold fChain; rw [w_bind]; congr 1; funext x μ1; rw [w_bind]; congr 1; funext y μ2; rw [w_bind]; congr 1; funext z μ3
  cases z with
  | bl t =>
    cases t with
    | false => simp [wpE]
    | true =>
      show wpE ((c s μ3).bind fun w μ4 => g y w μ4) Q E = _
      rw [w_bind]
      simp
  | _ => simp [wpE]
theorem s_raise {x : Str} {a : FE} {D : Dn} : wpS (sRaise x a s μ) D = wpE (a s μ) (fun u μ1 => D.ex x s μ1) (fun c μ => D.ex c s μ) := by
  unfold sRaise; rw [w_ofR]
  rfl
theorem ty_L {r : Nat} {us : List U} (h : μ[r]? = some (.lst us)) : tyU μ (.ref r) = some "list" := by unfold tyU; simp only [h]
theorem ty_T {us : List U} : tyU μ (.tup us) = some "tuple" := rfl
theorem ty_I {i : Int} : tyU μ (.int i) = some "int" := rfl
theorem ty_B {b : Bool} : tyU μ (.bl b) = some "bool" := rfl
theorem tru_b {b : Bool} : truU μ (.bl b) = some b := rfl
theorem truL {r : Nat} {us : List U} (h : μ[r]? = some (.lst us)) : truU μ (.ref r) = some (!us.isEmpty) := by
  unfold truU; simp only [h]
end

/-- all cells stay -/
structure Fr (μ μ' : Mem) : Prop where
  le : μ.length ≤ μ'.length
  at_ : ∀ (i : Nat) (c : Cell), μ[i]? = some c → μ'[i]? = some c
section
variable {μ μ' μ'' : Mem}
theorem Fr.refl : Fr μ μ := ⟨Nat.le_refl _, fun _ _ h => h⟩
theorem Fr.trans (a : Fr μ μ') (b : Fr μ' μ'') : Fr μ μ'' := ⟨Nat.le_trans a.le b.le, fun i c h => b.at_ i c (a.at_ i c h)⟩
theorem Fr.snoc {c : Cell} (a : Fr μ μ') : Fr μ (μ' ++ [c]) := ⟨by have := a.le; simp; omega, fun i d h => get_snoc_lt (a.at_ i d h)⟩
theorem Fr.put {c : Cell} {i : Nat} (a : Fr μ μ') (h : μ.length ≤ i) : Fr μ (μ'.set i c) := ⟨by simpa using a.le, fun j d hj => get_set_ne (a.at_ j d hj) (by have := get_lt hj; omega)⟩
end
section
variable {s : Slots} {μ : Mem} {Q : U → Mem → Prop} {E : Str → Mem → Prop}
theorem w_sl {a : FE} {lo hi : FO} : wpE (fSl a lo hi s μ) Q E = wpE (a s μ) (fun u μ1 => wpE (lo s μ1) (fun l μ2 => wpE (hi s μ2) (fun h μ3 => wpE (slU u l h μ3) Q E) E) E) E := by
  unfold fSl; rw [w_bind]; congr 1; funext u μ1; rw [w_bind]; congr 1; funext l μ2; rw [w_bind]
theorem w_oNone {Q : Option Int → Mem → Prop} : wpE (oNone s μ) Q E = Q none μ := rfl
theorem w_oSome {a : FE} {Q : Option Int → Mem → Prop} : wpE (oSome a s μ) Q E = wpE (a s μ) (fun u μ1 => ∃ i, u = .int i ∧ Q (some i) μ1) E := by
  unfold oSome; rw [w_bind]; congr 1; funext u μ1
  cases u <;> simp [wpE]
theorem sl_L {r : Nat} {us : List U} {lo hi : Option Int} (h : μ[r]? = some (.lst us)) : slU (.ref r) lo hi μ = .ok (.ref μ.length) (μ ++ [.lst (cutU us lo hi)]) := by
  unfold slU; simp only [lstU_L h]
theorem w_slL {r : Nat} {us : List U} {lo hi : Option Int} (h : μ[r]? = some (.lst us)) : wpE (slU (.ref r) lo hi μ) Q E = Q (.ref μ.length) (μ ++ [.lst (cutU us lo hi)]) := by rw [sl_L h]; rfl
theorem w_slT {us : List U} {lo hi : Option Int} : wpE (slU (.tup us) lo hi μ) Q E = Q (.tup (cutU us lo hi)) μ := rfl
theorem w_slF {us : List U} {lo hi : Option Int} : wpE (slU (.frl us) lo hi μ) Q E = Q (.ref μ.length) (μ ++ [.lst (cutU us lo hi)]) := rfl
theorem w_ixF {us : List U} {i : Int} : wpE (ixU (.frl us) (.int i) μ) Q E = ∃ a, atI us i = some a ∧ Q a μ := w_res
theorem w_lenF {us : List U} : wpE (bLen [.frl us] μ) Q E = Q (.int us.length) μ := rfl
theorem w_lenS {z : Str} : wpE (bLen [.str z] μ) Q E = (z.length ≤ lim ∧ Q (.int z.length) μ) := by
  by_cases h : z.length ≤ lim
  · have : bLen [.str z] μ = .ok (.int z.length) μ := by unfold bLen lenU; simp only [h, if_true]
    rw [this]; simp [wpE, h]
  · have : bLen [.str z] μ = .bad := by unfold bLen lenU; simp only [h, if_false]
    rw [this]; simp [wpE, h]
theorem w_abs {i : Int} : wpE (bAbs [.int i] μ) Q E = Q (.int i.natAbs) μ := by
  show Q (.int (if i < 0 then -i else i)) μ = _
  congr 2; split <;> omega
theorem w_max2 {i j : Int} : wpE (bMax [.int i, .int j] μ) Q E = Q (.int (max i j)) μ := by
  show Q (.int (if j > i then j else i)) μ = _
  congr 2; split <;> omega
theorem w_min2 {i j : Int} : wpE (bMin [.int i, .int j] μ) Q E = Q (.int (min i j)) μ := by
  show Q (.int (if j < i then j else i)) μ = _
  congr 2; split <;> omega
end
theorem s_tryAs {tab : List (Str × Bool)} {i : Nat} {b : FS} {ms : Str → FE} {s : Slots} {μ : Mem} {D : Dn} : wpS (sTryAs tab i b ms s μ) D = wpS (b s μ) { D with ex := fun c s1 μ1 => ∃ t, tab.lookup c = some t ∧ if t = true then i < s1.length ∧ wpE (ms c (s1.set i none) μ1) (fun u μ2 => D.rt u μ2) (fun c μ => D.ex c (s1.set i none) μ) else D.ex c s1 μ1 } := by
  unfold sTryAs
  cases b s μ with
  | ex c s1 μ1 =>
    show Dg.wpS (match tab.lookup c with
      | some true => _
      | some false => _
      | none => _) D = ∃ t, tab.lookup c = some t ∧ _
    cases tab.lookup c with
    | none => simp [Dg.wpS]
    | some t =>
      cases t with
      | false => simp [Dg.wpS]
      | true =>
        simp only [Option.some.injEq, exists_eq_left', if_true]
        split
        · rename_i h; simp only [h, true_and]; exact w_ofR
        · rename_i h; simp [h, Dg.wpS]
  | _ => rfl
theorem s_try {tab : List (Str × Bool)} {b u : FS} {s : Slots} {μ : Mem} {D : Dn} : wpS (sTry tab b u s μ) D = wpS (b s μ) { D with ex := fun c s1 μ1 => ∃ t, tab.lookup c = some t ∧ if t = true then wpS (u s1 μ1) D else D.ex c s1 μ1 } := by
  unfold sTry
  cases b s μ with
  | ex c s1 μ1 =>
    show Dg.wpS (match tab.lookup c with
      | some true => _
      | some false => _
      | none => _) D = ∃ t, tab.lookup c = some t ∧ _
    cases tab.lookup c with
    | none => simp [Dg.wpS]
    | some t =>
      cases t with
      | false => simp [Dg.wpS]
      | true => simp
  | _ => rfl
theorem w_isX {tab : List (Str × Bool)} {c : Str} {s : Slots} {μ : Mem} {Q : U → Mem → Prop} {E : Str → Mem → Prop} : wpE (fIsX tab c s μ) Q E = ∃ b, tab.lookup c = some b ∧ Q (.bl b) μ := by
  unfold fIsX
  cases tab.lookup c with
  | none => simp [wpE]
  | some b => simp [w_c]
/-! texts with places -/
theorem strOk_of (x : String) : PyData.strOk (Str.ofString x) = true := by
  rw [Str.ofString_eq_toList]
  unfold PyData.strOk
  rw [Array.all_eq_true']
  intro c hc
  simp only [List.mem_toArray, List.mem_map] at hc
  obtain ⟨ch, _, rfl⟩ := hc
  have := ch.valid
  simp only [decide_eq_true_eq]
  rcases this with h | h
  · exact Nat.lt_of_lt_of_le h (by decide)
  · exact h.2
def fmtOk (u : U) (y : Str) : Prop := (u = .str y ∧ y.length ≤ lim) ∨ ∃ i : Int, u = .int i ∧ i.natAbs.log2 < 1920 ∧ y = (toString i : Str)
section
variable {s : Slots} {μ : Mem} {Q : U → Mem → Prop} {E : Str → Mem → Prop}
theorem w_fmt {a : FE} : wpE (fFmt a s μ) Q E = wpE (a s μ) (fun u μ1 => ∃ y, fmtOk u y ∧ Q (.str y) μ1) E := by
  unfold fFmt; rw [w_bind]; congr 1; funext u μ1
  cases u with
  | str y =>
    apply propext
    constructor
    · intro h
      simp only at h
      split at h
      · rename_i hl; exact ⟨y, .inl ⟨rfl, hl⟩, h⟩
      · exact h.elim
    · rintro ⟨z, h | ⟨i, h, _⟩, q⟩
      · cases h.1; simp only [h.2, if_true]; exact q
      · cases h
  | int i =>
    apply propext
    constructor
    · intro h
      simp only at h
      split at h
      · rename_i hl; exact ⟨_, .inr ⟨i, rfl, hl.1, rfl⟩, h⟩
      · exact h.elim
    · rintro ⟨z, h | ⟨j, h, h2, h3⟩, q⟩
      · cases h.1
      · cases h; subst h3; simp only [h2, strOk_of, and_self, if_true]; exact q
  | _ =>
    apply propext
    constructor
    · intro h; exact h.elim
    · rintro ⟨z, h | ⟨j, h, h2, h3⟩, q⟩
      · cases h.1
      · cases h
theorem w_js0 {acc : Str} : wpE (fJs [] acc s μ) Q E = Q (.str acc) μ := rfl
theorem w_js {p : FE} {ps : List FE} {acc : Str} : wpE (fJs (p :: ps) acc s μ) Q E = wpE (p s μ) (fun u μ1 => ∃ y, u = .str y ∧ (acc ++ y).length ≤ lim ∧ wpE (fJs ps (acc ++ y) s μ1) Q E) E := by
  show wpE ((p s μ).bind _) Q E = _
  rw [w_bind]; congr 1; funext u μ1
  cases u with
  | str y =>
    simp only [U.str.injEq, exists_eq_left']
    split
    · rename_i h; simp [h]
    · rename_i h; simp [h, wpE]
  | _ => simp [wpE]
theorem len_app (a b : Str) : (a ++ b).length = a.length + b.length := by
  show (a.cps ++ b.cps).size = a.cps.size + b.cps.size
  simp
theorem fmt_str {y : Str} (h : y.length ≤ lim) : fmtOk (.str y) y := .inl ⟨rfl, h⟩
theorem fmt_int {i : Int} (h : i.natAbs < 2 ^ 64) : fmtOk (.int i) (toString i : Str) := .inr ⟨i, rfl, by
  have := Nat.log2_lt (n := i.natAbs) (k := 64)
  by_cases z : i.natAbs = 0
  · rw [z]; decide
  · have := (this z).mpr h
    omega, rfl⟩
end
/-! what is pure: data without lists; == of it -/
mutual
def sz : U → Nat
  | .tup us => 1 + szs us
  | _ => 1
def szs : List U → Nat
  | [] => 0
  | u :: us => sz u + szs us
end
mutual
def dp : U → Nat
  | .tup us => dps us + 1
  | _ => 0
def dps : List U → Nat
  | [] => 0
  | u :: us => max (dp u) (dps us)
end
mutual
def pu : U → Bool
  | .tup us => pus us
  | .str _ => true
  | .int _ => true
  | .bl _ => true
  | .non => true
  | _ => false
def pus : List U → Bool
  | [] => true
  | u :: us => pu u && pus us
end
mutual
theorem pu_data {u : U} (h : pu u = true) : ∃ d : PyData, (∀ g, toD g u = some d) ∧ PyData.eqv d d = true ∧ d.depth = dp u := by
  cases u with
  | tup us =>
    obtain ⟨ds, h1, h2, h3⟩ := pus_data (us := us) (by simpa [pu] using h)
    exact ⟨.tuple ds, fun g => by simp [toD, h1], by simpa [PyData.eqv] using h2, by simp [PyData.depth, dp, h3]⟩
  | str s => exact ⟨.str s, fun g => rfl, by simp [PyData.eqv], by simp [PyData.depth, dp]⟩
  | int i => exact ⟨.int i, fun g => rfl, by simp [PyData.eqv], by simp [PyData.depth, dp]⟩
  | bl b => exact ⟨.bool b, fun g => rfl, by simp [PyData.eqv], by simp [PyData.depth, dp]⟩
  | non => exact ⟨.none, fun g => rfl, by simp [PyData.eqv], by simp [PyData.depth, dp]⟩
  | _ => simp [pu] at h
theorem pus_data {us : List U} (h : pus us = true) : ∃ ds : List PyData, (∀ g, toDs g us = some ds) ∧ PyData.eqvAll ds ds = true ∧ PyData.depthAll ds = dps us := by
  cases us with
  | nil => exact ⟨[], fun g => rfl, rfl, rfl⟩
  | cons u us =>
    obtain ⟨h1, h2⟩ : pu u = true ∧ pus us = true := by simpa [pus] using h
    obtain ⟨d, a1, a2, a3⟩ := pu_data h1
    obtain ⟨ds, b1, b2, b3⟩ := pus_data h2
    exact ⟨d :: ds, fun g => by simp [toDs, a1, b1], by simp [PyData.eqvAll, a2, b2], by simp [PyData.depthAll, dps, a3, b3]⟩
end
/-- == of the same -/
theorem eq_self {u : U} {μ : Mem} (h : pu u = true) (hd : dp u ≤ 800) : eqU u u μ = some true := by
  obtain ⟨d, a, b, c⟩ := pu_data h
  unfold Dg.eqU datU
  simp only [a]
  rw [if_pos (by rw [c]; simp [eqLim]; omega), b]
/-- == of two lists of the same -/
theorem eq_lists {r1 r2 : Nat} {us : List U} {μ : Mem} (h1 : μ[r1]? = some (.lst us)) (h2 : μ[r2]? = some (.lst us)) (h : pus us = true) (hd : dps us ≤ 799) : eqU (.ref r1) (.ref r2) μ = some true := by
  obtain ⟨ds, a, b, c⟩ := pus_data h
  have e1 : datU μ (.ref r1) = some (.list ds) := by simp [datU, toD, refD, h1, a]
  have e2 : datU μ (.ref r2) = some (.list ds) := by simp [datU, toD, refD, h2, a]
  unfold Dg.eqU
  simp only [e1, e2]
  rw [if_pos (by simp [PyData.depth, c, eqLim]; omega)]
  simp [PyData.eqv, b]
/-! the same without truth values: == is = -/
mutual
def pd : U → Bool
  | .tup us => pds us
  | .str _ => true
  | .int _ => true
  | .non => true
  | _ => false
def pds : List U → Bool
  | [] => true
  | u :: us => pd u && pds us
end
mutual
theorem pd_pu {u : U} (h : pd u = true) : pu u = true := by
  cases u with
  | tup us => simp only [pu]; exact pds_pus (by simpa [pd] using h)
  | str s => rfl
  | int i => rfl
  | non => rfl
  | _ => simp [pd] at h
theorem pds_pus {us : List U} (h : pds us = true) : pus us = true := by
  cases us with
  | nil => rfl
  | cons u us =>
    obtain ⟨h1, h2⟩ : pd u = true ∧ pds us = true := by simpa [pds] using h
    simp [pus, pd_pu h1, pds_pus h2]
end
mutual
theorem pd_eq {u w : U} {g : Nat → Option PyData} {d e : PyData} (hu : pd u = true) (hw : pd w = true) (du : toD g u = some d) (dw : toD g w = some e) : PyData.eqv d e = true ↔ u = w := by
  cases u with
  | tup us =>
    simp only [toD, Option.map_eq_some_iff] at du
    obtain ⟨ds, du, rfl⟩ := du
    cases w with
    | tup ws =>
      simp only [toD, Option.map_eq_some_iff] at dw
      obtain ⟨es, dw, rfl⟩ := dw
      have := pds_eq (by simpa [pd] using hu) (by simpa [pd] using hw) du dw
      simp only [PyData.eqv, this, U.tup.injEq]
    | str s => cases dw; simp [PyData.eqv]
    | int i => cases dw; simp [PyData.eqv]
    | non => cases dw; simp [PyData.eqv]
    | _ => simp [pd] at hw
  | str s =>
    cases du
    cases w with
    | tup ws =>
      simp only [toD, Option.map_eq_some_iff] at dw
      obtain ⟨es, dw, rfl⟩ := dw
      simp [PyData.eqv]
    | str s => cases dw; simp [PyData.eqv]
    | int i => cases dw; simp [PyData.eqv]
    | non => cases dw; simp [PyData.eqv]
    | _ => simp [pd] at hw
  | int s =>
    cases du
    cases w with
    | tup ws =>
      simp only [toD, Option.map_eq_some_iff] at dw
      obtain ⟨es, dw, rfl⟩ := dw
      simp [PyData.eqv]
    | str s => cases dw; simp [PyData.eqv]
    | int i => cases dw; simp [PyData.eqv]
    | non => cases dw; simp [PyData.eqv]
    | _ => simp [pd] at hw
  | non =>
    cases du
    cases w with
    | tup ws =>
      simp only [toD, Option.map_eq_some_iff] at dw
      obtain ⟨es, dw, rfl⟩ := dw
      simp [PyData.eqv]
    | str s => cases dw; simp [PyData.eqv]
    | int i => cases dw; simp [PyData.eqv]
    | non => cases dw; simp [PyData.eqv]
    | _ => simp [pd] at hw
  | _ => simp [pd] at hu
theorem pds_eq {us ws : List U} {g : Nat → Option PyData} {ds es : List PyData} (hu : pds us = true) (hw : pds ws = true) (du : toDs g us = some ds) (dw : toDs g ws = some es) : PyData.eqvAll ds es = true ↔ us = ws := by
  cases us with
  | nil =>
    cases du
    cases ws with
    | nil => cases dw; simp [PyData.eqvAll]
    | cons w ws =>
      simp only [toDs] at dw
      split at dw
      · cases dw; simp [PyData.eqvAll]
      · cases dw
  | cons u us =>
    obtain ⟨h1, h2⟩ : pd u = true ∧ pds us = true := by simpa [pds] using hu
    simp only [toDs] at du
    split at du
    · rename_i d ds' d1 d2
      cases du
      cases ws with
      | nil => cases dw; simp [PyData.eqvAll]
      | cons w ws =>
        obtain ⟨k1, k2⟩ : pd w = true ∧ pds ws = true := by simpa [pds] using hw
        simp only [toDs] at dw
        split at dw
        · rename_i e es' e1 e2
          cases dw
          simp only [PyData.eqvAll, Bool.and_eq_true, pd_eq h1 k1 d1 e1, pds_eq h2 k2 d2 e2, List.cons.injEq]
        · cases dw
    · cases du
end
/-- == of data without truth values -/
theorem eq_pd {u w : U} {μ : Mem} (hu : pd u = true) (hw : pd w = true) (hd : min (dp u) (dp w) ≤ 800) : ∃ b, eqU u w μ = some b ∧ (b = true ↔ u = w) := by
  obtain ⟨d, a, _, c⟩ := pu_data (pd_pu hu)
  obtain ⟨e, a2, _, c2⟩ := pu_data (pd_pu hw)
  refine ⟨PyData.eqv d e, ?_, pd_eq hu hw (a (fun _ => none)) (a2 _)⟩
  unfold Dg.eqU datU
  simp only [a, a2]
  rw [if_pos (by rw [c, c2]; simp [eqLim]; omega)]
theorem eq_lpd {r1 r2 : Nat} {us ws : List U} {μ : Mem} (h1 : μ[r1]? = some (.lst us)) (h2 : μ[r2]? = some (.lst ws)) (hu : pds us = true) (hw : pds ws = true) (hd : min (dps us) (dps ws) ≤ 799) : ∃ b, eqU (.ref r1) (.ref r2) μ = some b ∧ (b = true ↔ us = ws) := by
  obtain ⟨ds, a, _, c⟩ := pus_data (pds_pus hu)
  obtain ⟨es, a2, _, c2⟩ := pus_data (pds_pus hw)
  have e1 : datU μ (.ref r1) = some (.list ds) := by simp [datU, toD, refD, h1, a]
  have e2 : datU μ (.ref r2) = some (.list es) := by simp [datU, toD, refD, h2, a2]
  refine ⟨PyData.eqv (.list ds) (.list es), ?_, ?_⟩
  · unfold Dg.eqU
    simp only [e1, e2]
    rw [if_pos (by simp [PyData.depth, c, c2, eqLim]; omega)]
  · simp only [PyData.eqv]
    exact pds_eq hu hw (a (fun _ => none)) (a2 _)
/-- the run ends and gives True -/
structure Yes (r : Res U) : Prop where
  ap : ∃ μ, r = .ok (.bl true) μ
theorem Yes.of {r : Res U} (h : wpE r (fun u _ => u = .bl true) (fun _ _ => False)) : Yes r := by
  obtain ⟨a, μ', e, rfl⟩ := wpE.get h
  exact ⟨μ', e⟩
/-! loops by what they walk -/
section
variable {s : Slots} {μ : Mem} {D : Dn} {g : Tgt} {b : FS}
theorem for_rng {m : Nat} (n : Nat) (I : Nat → Slots → Mem → Prop) (hm : m = n) (hn : n < 1000000) (h0 : I 0 s μ)
    (step : ∀ i s μ, i < n → I i s μ → ∃ s1, setT g (.int (i : Int)) s = some s1 ∧ Dg.wpS (b s1 μ) ⟨I (i + 1), D.rt, D.nx, I (i + 1), D.ex⟩) (fin : ∀ s μ, I n s μ → D.nx s μ) : Dg.wpS (sForGo g b fuelF (.rng 0 1 m) 0 s μ) D := by
  subst hm
  refine for_go (fun i s μ => i ≤ m ∧ I i s μ) m hn ⟨by omega, h0⟩ (fun i s μ h => h.1) ?_
  rintro i s μ ⟨hi, h⟩
  rw [item_rng]
  by_cases e : i < m
  · right
    obtain ⟨s1, e1, e2⟩ := step i s μ e h
    refine ⟨_, s1, by rw [if_pos e], by rw [show (0 : Int) + (i : Int) * 1 = (i : Int) by omega]; exact e1, wpS.mono e2 (fun _ _ q => ⟨by omega, q⟩) (fun _ _ q => q) (fun _ _ q => q) (fun _ _ q => ⟨by omega, q⟩) fun _ _ _ q => q⟩
  · left
    have : i = m := by omega
    subst this
    exact ⟨by rw [if_neg e], fin s μ h⟩
theorem for_seq {us : List U} (I : Nat → Slots → Mem → Prop) (hn : us.length < 1000000) (h0 : I 0 s μ)
    (step : ∀ i s μ (h : i < us.length), I i s μ → ∃ s1, setT g us[i] s = some s1 ∧ Dg.wpS (b s1 μ) ⟨I (i + 1), D.rt, D.nx, I (i + 1), D.ex⟩) (fin : ∀ s μ, I us.length s μ → D.nx s μ) : Dg.wpS (sForGo g b fuelF (.seq us) 0 s μ) D := by
  refine for_go (fun i s μ => i ≤ us.length ∧ I i s μ) us.length hn ⟨by omega, h0⟩ (fun i s μ h => h.1) ?_
  rintro i s μ ⟨hi, h⟩
  rw [item_seq]
  by_cases e : i < us.length
  · right
    obtain ⟨s1, e1, e2⟩ := step i s μ e h
    exact ⟨us[i], s1, by rw [List.getElem?_eq_getElem e], e1, wpS.mono e2 (fun _ _ q => ⟨by omega, q⟩) (fun _ _ q => q) (fun _ _ q => q) (fun _ _ q => ⟨by omega, q⟩) fun _ _ _ q => q⟩
  · left
    have : i = us.length := by omega
    subst this
    exact ⟨by rw [List.getElem?_eq_none (by omega)], fin s μ h⟩
theorem for_live {r : Nat} (us : List U) (I : Nat → Slots → Mem → Prop) (hn : us.length < 1000000) (h0 : I 0 s μ) (hc : ∀ i s μ, I i s μ → μ[r]? = some (.lst us))
    (step : ∀ i s μ (h : i < us.length), I i s μ → ∃ s1, setT g us[i] s = some s1 ∧ Dg.wpS (b s1 μ) ⟨I (i + 1), D.rt, D.nx, I (i + 1), D.ex⟩) (fin : ∀ s μ, I us.length s μ → D.nx s μ) : Dg.wpS (sForGo g b fuelF (.live r) 0 s μ) D := by
  refine for_go (fun i s μ => i ≤ us.length ∧ I i s μ) us.length hn ⟨by omega, h0⟩ (fun i s μ h => h.1) ?_
  rintro i s μ ⟨hi, h⟩
  rw [item_live (hc i s μ h)]
  by_cases e : i < us.length
  · right
    obtain ⟨s1, e1, e2⟩ := step i s μ e h
    exact ⟨us[i], s1, by rw [List.getElem?_eq_getElem e], e1, wpS.mono e2 (fun _ _ q => ⟨by omega, q⟩) (fun _ _ q => q) (fun _ _ q => q) (fun _ _ q => ⟨by omega, q⟩) fun _ _ _ q => q⟩
  · left
    have : i = us.length := by omega
    subst this
    exact ⟨by rw [List.getElem?_eq_none (by omega)], fin s μ h⟩
end
section
variable {own : List Nat} {g : Tgt} {t : FT} {e : FE} {s : Slots} {d : Nat} {μ : Mem} {Q : U → Mem → Prop} {E : Str → Mem → Prop}
theorem lc_rng {m : Nat} (n : Nat) (I : Nat → Mem → Prop) (hm : m = n) (hn : n < 1000000) (h0 : I 0 μ)
    (step : ∀ i μ, i < n → I i μ → ∃ s1, setT g (.int (i : Int)) (wipeU s own) = some s1 ∧
      wpE (t s1 μ) (fun b μ3 => if b = true then wpE (e s1 μ3) (fun v μ4 => ∃ acc, μ4[d]? = some (.lst acc) ∧ acc.length < lim ∧ I (i + 1) (μ4.set d (.lst (acc ++ [v])))) (fun _ _ => False) else I (i + 1) μ3) (fun _ _ => False))
    (fin : ∀ μ, I n μ → Q (.ref d) μ) : wpE (lcGo (.rng 0 1 m) own g t e s d fuelF 0 μ) Q E := by
  subst hm
  refine lc_go (fun i μ => i ≤ m ∧ I i μ) m hn ⟨by omega, h0⟩ (fun i μ h => h.1) ?_
  rintro i μ ⟨hi, h⟩
  rw [item_rng]
  by_cases h1 : i < m
  · right
    obtain ⟨s1, e1, e2⟩ := step i μ h1 h
    refine ⟨_, s1, by rw [if_pos h1], by rw [show (0 : Int) + (i : Int) * 1 = (i : Int) by omega]; exact e1, wpE.mono e2 fun b μ3 q => ?_⟩
    cases b with
    | false => exact ⟨by omega, q⟩
    | true => exact wpE.mono q fun v μ4 ⟨acc, a1, a2, a3⟩ => ⟨acc, a1, a2, by omega, a3⟩
  · left
    have : i = m := by omega
    subst this
    exact ⟨by rw [if_neg h1], fin μ h⟩
theorem lc_seq {us : List U} (I : Nat → Mem → Prop) (hn : us.length < 1000000) (h0 : I 0 μ)
    (step : ∀ i μ (h : i < us.length), I i μ → ∃ s1, setT g us[i] (wipeU s own) = some s1 ∧
      wpE (t s1 μ) (fun b μ3 => if b = true then wpE (e s1 μ3) (fun v μ4 => ∃ acc, μ4[d]? = some (.lst acc) ∧ acc.length < lim ∧ I (i + 1) (μ4.set d (.lst (acc ++ [v])))) (fun _ _ => False) else I (i + 1) μ3) (fun _ _ => False))
    (fin : ∀ μ, I us.length μ → Q (.ref d) μ) : wpE (lcGo (.seq us) own g t e s d fuelF 0 μ) Q E := by
  refine lc_go (fun i μ => i ≤ us.length ∧ I i μ) us.length hn ⟨by omega, h0⟩ (fun i μ h => h.1) ?_
  rintro i μ ⟨hi, h⟩
  rw [item_seq]
  by_cases h1 : i < us.length
  · right
    obtain ⟨s1, e1, e2⟩ := step i μ h1 h
    refine ⟨us[i], s1, by rw [List.getElem?_eq_getElem h1], e1, wpE.mono e2 fun b μ3 q => ?_⟩
    cases b with
    | false => exact ⟨by omega, q⟩
    | true => exact wpE.mono q fun v μ4 ⟨acc, a1, a2, a3⟩ => ⟨acc, a1, a2, by omega, a3⟩
  · left
    have : i = us.length := by omega
    subst this
    exact ⟨by rw [List.getElem?_eq_none (by omega)], fin μ h⟩
theorem lc_live {r : Nat} (us : List U) (I : Nat → Mem → Prop) (hn : us.length < 1000000) (h0 : I 0 μ) (hc : ∀ i μ, I i μ → μ[r]? = some (.lst us))
    (step : ∀ i μ (h : i < us.length), I i μ → ∃ s1, setT g us[i] (wipeU s own) = some s1 ∧
      wpE (t s1 μ) (fun b μ3 => if b = true then wpE (e s1 μ3) (fun v μ4 => ∃ acc, μ4[d]? = some (.lst acc) ∧ acc.length < lim ∧ I (i + 1) (μ4.set d (.lst (acc ++ [v])))) (fun _ _ => False) else I (i + 1) μ3) (fun _ _ => False))
    (fin : ∀ μ, I us.length μ → Q (.ref d) μ) : wpE (lcGo (.live r) own g t e s d fuelF 0 μ) Q E := by
  refine lc_go (fun i μ => i ≤ us.length ∧ I i μ) us.length hn ⟨by omega, h0⟩ (fun i μ h => h.1) ?_
  rintro i μ ⟨hi, h⟩
  rw [item_live (hc i μ h)]
  by_cases h1 : i < us.length
  · right
    obtain ⟨s1, e1, e2⟩ := step i μ h1 h
    refine ⟨us[i], s1, by rw [List.getElem?_eq_getElem h1], e1, wpE.mono e2 fun b μ3 q => ?_⟩
    cases b with
    | false => exact ⟨by omega, q⟩
    | true => exact wpE.mono q fun v μ4 ⟨acc, a1, a2, a3⟩ => ⟨acc, a1, a2, by omega, a3⟩
  · left
    have : i = us.length := by omega
    subst this
    exact ⟨by rw [List.getElem?_eq_none (by omega)], fin μ h⟩
end
/-! comprehensions as maps -/
theorem take_snoc {α : Type} {us : List α} {i : Nat} (h : i < us.length) : us.take (i + 1) = us.take i ++ [us[i]] := by
  rw [List.take_succ]; simp [h]
section
variable {own : List Nat} {g : Tgt} {t : FT} {e : FE} {s : Slots} {μ0 : Mem} {Q : U → Mem → Prop} {E : Str → Mem → Prop}
theorem lc_map {us : List U} (f : U → U) (hn : us.length < 1000000)
    (step : ∀ i μ' (h : i < us.length), Fr μ0 μ' → ∃ s1, setT g us[i] (wipeU s own) = some s1 ∧ wpE (e s1 μ') (fun w μ'' => w = f us[i] ∧ Fr μ' μ'') (fun _ _ => False))
    (fin : ∀ μ', Fr μ0 μ' → μ'[μ0.length]? = some (.lst (us.map f)) → Q (.ref μ0.length) μ') : wpE (lcGo (.seq us) own g tAll e s μ0.length fuelF 0 (μ0 ++ [.lst []])) Q E := by
  refine lc_seq (fun i μ' => Fr μ0 μ' ∧ μ'[μ0.length]? = some (.lst ((us.take i).map f))) hn ⟨Fr.refl.snoc, by simp⟩ ?_ ?_
  · rintro i μ1 hi ⟨f1, c1⟩
    obtain ⟨s1, a1, a2⟩ := step i μ1 hi f1
    refine ⟨s1, a1, ?_⟩
    show wpE (e s1 μ1) _ _
    refine wpE.mono a2 ?_
    rintro w μ2 ⟨rfl, f2⟩
    refine ⟨_, f2.at_ _ _ c1, by simp [lim]; omega, (f1.trans f2).put (Nat.le_refl _), ?_⟩
    rw [get_set (f2.at_ _ _ c1), take_snoc hi, List.map_append]
    rfl
  · rintro μ1 ⟨f1, c1⟩
    rw [List.take_length] at c1
    exact fin μ1 f1 c1
theorem lc_mapL {r : Nat} {us : List U} (hr : μ0[r]? = some (.lst us)) (f : U → U) (hn : us.length < 1000000)
    (step : ∀ i μ' (h : i < us.length), Fr μ0 μ' → ∃ s1, setT g us[i] (wipeU s own) = some s1 ∧ wpE (e s1 μ') (fun w μ'' => w = f us[i] ∧ Fr μ' μ'') (fun _ _ => False))
    (fin : ∀ μ', Fr μ0 μ' → μ'[μ0.length]? = some (.lst (us.map f)) → Q (.ref μ0.length) μ') : wpE (lcGo (.live r) own g tAll e s μ0.length fuelF 0 (μ0 ++ [.lst []])) Q E := by
  refine lc_live us (fun i μ' => Fr μ0 μ' ∧ μ'[μ0.length]? = some (.lst ((us.take i).map f))) hn ⟨Fr.refl.snoc, by simp⟩ (fun i μ' h => h.1.at_ _ _ hr) ?_ ?_
  · rintro i μ1 hi ⟨f1, c1⟩
    obtain ⟨s1, a1, a2⟩ := step i μ1 hi f1
    refine ⟨s1, a1, ?_⟩
    show wpE (e s1 μ1) _ _
    refine wpE.mono a2 ?_
    rintro w μ2 ⟨rfl, f2⟩
    refine ⟨_, f2.at_ _ _ c1, by simp [lim]; omega, (f1.trans f2).put (Nat.le_refl _), ?_⟩
    rw [get_set (f2.at_ _ _ c1), take_snoc hi, List.map_append]
    rfl
  · rintro μ1 ⟨f1, c1⟩
    rw [List.take_length] at c1
    exact fin μ1 f1 c1
theorem lc_mapR {m : Nat} (n : Nat) (f : Nat → U) (hm : m = n) (hn : n < 1000000)
    (step : ∀ i μ', i < n → Fr μ0 μ' → ∃ s1, setT g (.int (i : Int)) (wipeU s own) = some s1 ∧ wpE (e s1 μ') (fun w μ'' => w = f i ∧ Fr μ' μ'') (fun _ _ => False))
    (fin : ∀ μ', Fr μ0 μ' → μ'[μ0.length]? = some (.lst ((List.range n).map f)) → Q (.ref μ0.length) μ') : wpE (lcGo (.rng 0 1 m) own g tAll e s μ0.length fuelF 0 (μ0 ++ [.lst []])) Q E := by
  refine lc_rng n (fun i μ' => Fr μ0 μ' ∧ μ'[μ0.length]? = some (.lst ((List.range i).map f))) hm hn ⟨Fr.refl.snoc, by simp⟩ ?_ ?_
  · rintro i μ1 hi ⟨f1, c1⟩
    obtain ⟨s1, a1, a2⟩ := step i μ1 hi f1
    refine ⟨s1, a1, ?_⟩
    show wpE (e s1 μ1) _ _
    refine wpE.mono a2 ?_
    rintro w μ2 ⟨rfl, f2⟩
    refine ⟨_, f2.at_ _ _ c1, by simp [lim]; omega, (f1.trans f2).put (Nat.le_refl _), ?_⟩
    rw [get_set (f2.at_ _ _ c1), List.range_succ]
    simp
  · rintro μ1 ⟨f1, c1⟩
    exact fin μ1 f1 c1
theorem lc_sel {us : List U} (p : U → Bool) (f : U → U) (hn : us.length < 1000000)
    (step : ∀ i μ' (h : i < us.length), Fr μ0 μ' → ∃ s1, setT g us[i] (wipeU s own) = some s1 ∧ wpE (t s1 μ') (fun b μ2 => b = p us[i] ∧ Fr μ' μ2 ∧ (b = true → wpE (e s1 μ2) (fun w μ'' => w = f us[i] ∧ Fr μ2 μ'') (fun _ _ => False))) (fun _ _ => False))
    (fin : ∀ μ', Fr μ0 μ' → μ'[μ0.length]? = some (.lst ((us.filter p).map f)) → Q (.ref μ0.length) μ') : wpE (lcGo (.seq us) own g t e s μ0.length fuelF 0 (μ0 ++ [.lst []])) Q E := by
  refine lc_seq (fun i μ' => Fr μ0 μ' ∧ μ'[μ0.length]? = some (.lst (((us.take i).filter p).map f))) hn ⟨Fr.refl.snoc, by simp⟩ ?_ ?_
  · rintro i μ1 hi ⟨f1, c1⟩
    obtain ⟨s1, a1, a2⟩ := step i μ1 hi f1
    refine ⟨s1, a1, ?_⟩
    have hl : ((us.take i).filter p).length ≤ us.length := Nat.le_trans (List.length_filter_le _ _) (by simp; omega)
    refine wpE.mono a2 ?_
    rintro b μ2 ⟨rfl, f2, h2⟩
    cases hb : p us[i] with
    | false =>
      simp only [Bool.false_eq_true, if_false]
      refine ⟨f1.trans f2, ?_⟩
      rw [f2.at_ _ _ c1, take_snoc hi, List.filter_append, List.map_append]
      simp [hb]
    | true =>
      simp only [if_true]
      refine wpE.mono (h2 hb) ?_
      rintro w μ3 ⟨rfl, f3⟩
      have c3 := f3.at_ _ _ (f2.at_ _ _ c1)
      refine ⟨_, c3, by simp only [List.length_map, lim]; omega, ((f1.trans f2).trans f3).put (Nat.le_refl _), ?_⟩
      rw [get_set c3, take_snoc hi, List.filter_append, List.map_append]
      simp [hb]
  · rintro μ1 ⟨f1, c1⟩
    rw [List.take_length] at c1
    exact fin μ1 f1 c1
theorem lc_selL {r : Nat} {us : List U} (hr : μ0[r]? = some (.lst us)) (p : U → Bool) (f : U → U) (hn : us.length < 1000000)
    (step : ∀ i μ' (h : i < us.length), Fr μ0 μ' → ∃ s1, setT g us[i] (wipeU s own) = some s1 ∧ wpE (t s1 μ') (fun b μ2 => b = p us[i] ∧ Fr μ' μ2 ∧ (b = true → wpE (e s1 μ2) (fun w μ'' => w = f us[i] ∧ Fr μ2 μ'') (fun _ _ => False))) (fun _ _ => False))
    (fin : ∀ μ', Fr μ0 μ' → μ'[μ0.length]? = some (.lst ((us.filter p).map f)) → Q (.ref μ0.length) μ') : wpE (lcGo (.live r) own g t e s μ0.length fuelF 0 (μ0 ++ [.lst []])) Q E := by
  refine lc_live us (fun i μ' => Fr μ0 μ' ∧ μ'[μ0.length]? = some (.lst (((us.take i).filter p).map f))) hn ⟨Fr.refl.snoc, by simp⟩ (fun i μ' h => h.1.at_ _ _ hr) ?_ ?_
  · rintro i μ1 hi ⟨f1, c1⟩
    obtain ⟨s1, a1, a2⟩ := step i μ1 hi f1
    refine ⟨s1, a1, ?_⟩
    have hl : ((us.take i).filter p).length ≤ us.length := Nat.le_trans (List.length_filter_le _ _) (by simp; omega)
    refine wpE.mono a2 ?_
    rintro b μ2 ⟨rfl, f2, h2⟩
    cases hb : p us[i] with
    | false =>
      simp only [Bool.false_eq_true, if_false]
      refine ⟨f1.trans f2, ?_⟩
      rw [f2.at_ _ _ c1, take_snoc hi, List.filter_append, List.map_append]
      simp [hb]
    | true =>
      simp only [if_true]
      refine wpE.mono (h2 hb) ?_
      rintro w μ3 ⟨rfl, f3⟩
      have c3 := f3.at_ _ _ (f2.at_ _ _ c1)
      refine ⟨_, c3, by simp only [List.length_map, lim]; omega, ((f1.trans f2).trans f3).put (Nat.le_refl _), ?_⟩
      rw [get_set c3, take_snoc hi, List.filter_append, List.map_append]
      simp [hb]
  · rintro μ1 ⟨f1, c1⟩
    rw [List.take_length] at c1
    exact fin μ1 f1 c1
end
theorem blsU_map {α : Type} (f : α → Bool) : ∀ us : List α, blsU (us.map fun u => U.bl (f u)) = some (us.map f)
  | [] => rfl
  | u :: us => by simp [blsU, blsU_map f us]
theorem w_allL {μ : Mem} {Q : U → Mem → Prop} {E : Str → Mem → Prop} {r : Nat} {us : List U} {bs : List Bool} (h : μ[r]? = some (.lst us)) (e : blsU us = some bs) : wpE (bAll [.ref r] μ) Q E = Q (.bl (bs.all id)) μ := by
  have : bAll [.ref r] μ = .ok (.bl (bs.all id)) μ := by unfold bAll; simp only [lstU_L h, Option.bind_some, e]
  rw [this]; rfl
theorem w_anyL {μ : Mem} {Q : U → Mem → Prop} {E : Str → Mem → Prop} {r : Nat} {us : List U} {bs : List Bool} (h : μ[r]? = some (.lst us)) (e : blsU us = some bs) : wpE (bAny [.ref r] μ) Q E = Q (.bl (bs.any id)) μ := by
  have : bAny [.ref r] μ = .ok (.bl (bs.any id)) μ := by unfold bAny; simp only [lstU_L h, Option.bind_some, e]
  rw [this]; rfl
theorem intsU_map {α : Type} (f : α → Int) : ∀ us : List α, intsU (us.map fun u => U.int (f u)) = some (us.map f)
  | [] => rfl
  | u :: us => by simp [intsU, intsU_map f us]
theorem w_sumL {μ : Mem} {Q : U → Mem → Prop} {E : Str → Mem → Prop} {r : Nat} {us : List U} {bs : List Int} (h : μ[r]? = some (.lst us)) (e : intsU us = some bs) : wpE (bSum [.ref r] μ) Q E = Q (.int bs.sum) μ := by
  have : bSum [.ref r] μ = .ok (.int bs.sum) μ := by unfold bSum; simp only [lstU_L h, Option.bind_some, e]
  rw [this]; rfl
theorem w_listL {μ : Mem} {Q : U → Mem → Prop} {E : Str → Mem → Prop} {r : Nat} {us : List U} (h : μ[r]? = some (.lst us)) : wpE (bList [.ref r] μ) Q E = Q (.ref μ.length) (μ ++ [.lst us]) := by
  have : bList [.ref r] μ = .ok (.ref μ.length) (μ ++ [.lst us]) := by unfold bList seqU; simp only [h]
  rw [this]; rfl
theorem w_listT {μ : Mem} {Q : U → Mem → Prop} {E : Str → Mem → Prop} {us : List U} : wpE (bList [.tup us] μ) Q E = Q (.ref μ.length) (μ ++ [.lst us]) := rfl
theorem w_addT {μ : Mem} {Q : U → Mem → Prop} {E : Str → Mem → Prop} {us ws : List U} (h : us.length + ws.length ≤ lim) : wpE (uAdd (.tup us) (.tup ws) μ) Q E = Q (.tup (us ++ ws)) μ := by
  cases us with
  | nil => rfl
  | cons u us =>
    have : uAdd (.tup (u :: us)) (.tup ws) μ = .ok (.tup (u :: us ++ ws)) μ := by unfold uAdd; simp only [h, if_true]
    rw [this]; rfl
theorem w_mulT {μ : Mem} {Q : U → Mem → Prop} {E : Str → Mem → Prop} {us : List U} {n : Int} (h : -1000 ≤ n ∧ n ≤ 1000 ∧ us.length ≤ 1000) : wpE (uMul (.tup us) (.int n) μ) Q E = Q (.tup (repU n.toNat us)) μ := by
  have : uMul (.tup us) (.int n) μ = .ok (.tup (repU n.toNat us)) μ := by unfold uMul; simp only [h, and_self, if_true]
  rw [this]; rfl
theorem w_addL' {μ : Mem} {a b : Nat} {xs ys : List U} {Q : U → Mem → Prop} {E : Str → Mem → Prop} (h1 : μ[a]? = some (.lst xs)) (h2 : μ[b]? = some (.lst ys)) (hl : xs.length + ys.length ≤ lim) : wpE (uAdd (.ref a) (.ref b) μ) Q E = Q (.ref μ.length) (μ ++ [.lst (xs ++ ys)]) := by
  have : uAdd (.ref a) (.ref b) μ = .ok (.ref μ.length) (μ ++ [.lst (xs ++ ys)]) := by unfold uAdd; simp only [h1, h2, hl, if_true]
  rw [this]; rfl
theorem tru_T {μ : Mem} {us : List U} : truU μ (.tup us) = some (!us.isEmpty) := rfl
theorem tru_I {μ : Mem} {i : Int} : truU μ (.int i) = some (i != 0) := rfl
/-! dicts -/
section
variable {s : Slots} {μ : Mem} {Q : U → Mem → Prop} {E : Str → Mem → Prop} {D : Dn}
theorem w_getE {d a b : FE} : wpE (fGet d a b s μ) Q E = wpE (d s μ) (fun x μ1 => (∃ kus0, rdU μ1 x = some kus0) ∧ wpE (a s μ1) (fun y μ2 => wpE (b s μ2) (fun z μ3 => ∃ kus k, rdU μ3 x = some kus ∧ keyU y = some k ∧ Q ((valU kus k).getD z) μ3) E) E) E := by
  unfold fGet; rw [w_bind]; congr 1; funext x μ1
  cases rdU μ1 x with
  | none => simp [wpE]
  | some k0 =>
    simp only [w_bind, Option.some.injEq, exists_eq', true_and]
    congr 1; funext y μ2; congr 1; funext z μ3
    cases h1 : rdU μ3 x with
    | none => simp [wpE]
    | some kus =>
      cases h2 : keyU y with
      | none => simp [wpE]
      | some k => simp [wpE]
theorem rd_D {r : Nat} {kus : List (Key × U)} (h : μ[r]? = some (.dct kus)) : rdU μ (.ref r) = some kus := by unfold rdU; simp only [h]
theorem rd_F {r : Nat} {kus : List (Key × U)} (h : μ[r]? = some (.fdc kus)) : rdU μ (.ref r) = some kus := by unfold rdU; simp only [h]
theorem stU_DI {r : Nat} {kvs : List (Key × U)} {x : Int} {u : U} (h : μ[r]? = some (.dct kvs)) (hl : kvs.length < lim) : stU (.ref r) (.int x) u μ = some (μ.set r (.dct (putU kvs (.inl x) u))) := by
  unfold stU; simp only [h, keyU, hl, if_true]
theorem w_ixDI {r : Nat} {kvs : List (Key × U)} {x : Int} (h : μ[r]? = some (.dct kvs)) : wpE (ixU (.ref r) (.int x) μ) Q E = ∃ a, valU kvs (.inl x) = some a ∧ Q a μ := by
  have : ixU (.ref r) (.int x) μ = opt (valU kvs (.inl x)) μ := by
    unfold ixU dctU
    simp only [h, keyU]
  rw [this, w_res]
def lkD (r : Nat) (D : Dn) : Dn := ⟨fun s μ => ∃ kus, μ[r]? = some (.fdc kus) ∧ D.nx s (μ.set r (.dct kus)), fun u μ => ∃ kus, μ[r]? = some (.fdc kus) ∧ D.rt u (μ.set r (.dct kus)),
  fun s μ => ∃ kus, μ[r]? = some (.fdc kus) ∧ D.bk s (μ.set r (.dct kus)), fun s μ => ∃ kus, μ[r]? = some (.fdc kus) ∧ D.ct s (μ.set r (.dct kus)), D.ex⟩
theorem ulM_F {r : Nat} {kus : List (Key × U)} (h : μ[r]? = some (.fdc kus)) : ulM r μ = some (μ.set r (.dct kus)) := by unfold ulM; simp only [h, ulC]
theorem s_lockD {e : FE} {b : FS} {r : Nat} {μ' : Mem} {kus : List (Key × U)} (he : e s μ = .ok (.ref r) μ') (h : μ[r]? = some (.dct kus)) (w : Dg.wpS (b s (μ.set r (.fdc kus))) (lkD r D)) : Dg.wpS (sLock e b s μ) D := by
  unfold sLock
  rw [he]
  simp only [h, lkC]
  cases eb : b s (μ.set r (.fdc kus)) with
  | nx s1 m1 => rw [eb] at w; obtain ⟨k, c, q⟩ := w; simp only [ulO, ulM_F c]; exact q
  | rt s1 m1 => rw [eb] at w; obtain ⟨k, c, q⟩ := w; simp only [ulO, ulM_F c]; exact q
  | bk s1 m1 => rw [eb] at w; obtain ⟨k, c, q⟩ := w; simp only [ulO, ulM_F c]; exact q
  | ct s1 m1 => rw [eb] at w; obtain ⟨k, c, q⟩ := w; simp only [ulO, ulM_F c]; exact q
  | ex c s1 m1 => rw [eb] at w; exact w
  | bad => rw [eb] at w; exact w
theorem w_lockD {e : FE} {b : FE} {r : Nat} {μ' : Mem} {kus : List (Key × U)} (he : e s μ = .ok (.ref r) μ') (h : μ[r]? = some (.dct kus)) (w : wpE (b s (μ.set r (.fdc kus))) (fun u μ => ∃ kus, μ[r]? = some (.fdc kus) ∧ Q u (μ.set r (.dct kus))) E) : wpE (fLock e b s μ) Q E := by
  unfold fLock
  rw [he]
  simp only [h, lkC]
  cases eb : b s (μ.set r (.fdc kus)) with
  | ok s1 m1 => rw [eb] at w; obtain ⟨k, c, q⟩ := w; simp only [ulR, ulM_F c]; exact q
  | ex c m1 => rw [eb] at w; exact w
  | bad => rw [eb] at w; exact w
theorem w_items {a : FE} {Q : IterU → Mem → Prop} : wpE (Dg.iItems a s μ) Q E = wpE (a s μ) (fun u μ1 => ∃ kus, fdcU μ1 u = some kus ∧ ksOk kus = true ∧ Q (.seq (itemsU kus)) μ1) E := by
  unfold Dg.iItems; rw [w_bind]; congr 1; funext u μ1
  cases fdcU μ1 u with
  | none => simp [wpE]
  | some kus =>
    simp only [Option.some.injEq, exists_eq_left']
    split
    · rename_i h; simp [h, wpE]
    · rename_i h; simp [h, wpE]
theorem w_keys {a : FE} {Q : IterU → Mem → Prop} : wpE (Dg.iKeys a s μ) Q E = wpE (a s μ) (fun u μ1 => ∃ kus, fdcU μ1 u = some kus ∧ ksOk kus = true ∧ Q (.seq (keysU kus)) μ1) E := by
  unfold Dg.iKeys; rw [w_bind]; congr 1; funext u μ1
  cases fdcU μ1 u with
  | none => simp [wpE]
  | some kus =>
    simp only [Option.some.injEq, exists_eq_left']
    split
    · rename_i h; simp [h, wpE]
    · rename_i h; simp [h, wpE]
theorem fdc_F {r : Nat} {kus : List (Key × U)} (h : μ[r]? = some (.fdc kus)) : fdcU μ (.ref r) = some kus := by unfold fdcU; simp only [h]
end
theorem Fr.unlock {μ μ' : Mem} {r : Nat} {kus : List (Key × U)} (h : μ[r]? = some (.dct kus)) (f : Fr (μ.set r (.fdc kus)) μ') : Fr μ (μ'.set r (.dct kus)) := by
  have hl := get_lt h
  have hr : μ'[r]? = some (.fdc kus) := f.at_ _ _ (get_set h)
  refine ⟨by have := f.le; simp at this ⊢; omega, fun i c hi => ?_⟩
  by_cases e : i = r
  · subst e
    rw [h] at hi
    cases hi
    exact get_set hr
  · exact get_set_ne (f.at_ _ _ (get_set_ne hi (Ne.symm e))) (Ne.symm e)
theorem atI_toNat {α : Type} {xs : List α} {i : Int} (h0 : 0 ≤ i) (h : i.toNat < xs.length) : atI xs i = some xs[i.toNat] := by
  obtain ⟨n, rfl⟩ := Int.eq_ofNat_of_zero_le h0
  rw [Dg.atI_nat]
  simp only [Int.toNat_natCast] at h ⊢
  exact List.getElem?_eq_getElem h
theorem w_index {μ : Mem} {Q : U → Mem → Prop} {E : Str → Mem → Prop} {u w : U} {us : List U} {vs : List V} {y : V} {j : Nat} (h : lstU μ u = some us) (e1 : flUs us = some vs) (e2 : flU w = some y) (e3 : idxV y vs = some j) : wpE (gIndex u [w] μ) Q E = Q (.int (j : Nat)) μ := by
  have : gIndex u [w] μ = .ok (.int (j : Nat)) μ := by unfold gIndex; simp only [h, e1, e2, e3]
  rw [this]; rfl
theorem cutU_take {α : Type} {us : List α} {n : Int} (h : 0 ≤ n) : cutU us none (some n) = us.take n.toNat := by
  unfold cutU
  obtain ⟨m, rfl⟩ := Int.eq_ofNat_of_zero_le h
  show (us.drop 0).take (HT.sIx us.length us.length (some (m : Int)) - 0) = _
  rw [HT.sIx_nat]
  simp only [List.drop_zero, Nat.sub_zero, Int.toNat_natCast]
  rcases Nat.le_total m us.length with h | h
  · rw [Nat.min_eq_left h]
  · rw [Nat.min_eq_right h, List.take_of_length_le (Nat.le_refl _), List.take_of_length_le h]
theorem cutU_drop {α : Type} {us : List α} {n : Int} (h : 0 ≤ n) : cutU us (some n) none = us.drop n.toNat := by
  unfold cutU
  obtain ⟨m, rfl⟩ := Int.eq_ofNat_of_zero_le h
  rw [HT.sIx_nat]
  show (us.drop (min m us.length)).take (us.length - min m us.length) = _
  simp only [Int.toNat_natCast]
  rcases Nat.le_total m us.length with h | h
  · rw [Nat.min_eq_left h, List.take_of_length_le (by simp)]
  · rw [Nat.min_eq_right h, List.drop_of_length_le (Nat.le_refl _), List.drop_of_length_le h]; simp
local macro_rules | `(tactic| walk_at "go") => `(tactic| simp (config := {decide := true}) only [w_run, w_op, w_isi, Dg.wipeU, w_powI, w_intB, w_sl, w_oNone, w_oSome, w_slT, w_slF, w_ixF, w_lenF, w_abs, w_max2, w_min2, w_fdivI, w_neg, w_andE, w_orE, w_notE, w_chain, w_c, w_var, w_call, w_def, w_anil, w_acons, w_tup, w_lst, w_int, w_intB, w_lenT, w_addI, w_subI, w_modI, w_mulI, w_ltI, w_leI, w_gtI, w_geI, w_eq, w_ne, w_ixT, w_if, w_nt, w_an, w_or, w_all, w_tstB, w_tst, w_app, w_lc, w_for, w_iseqT, w_rg1, w_rev1, w_d0, Dg.eq_str, Dg.eq_int, s_seq, s_next, s_brk, s_cnt, s_expr, s_ret, s_retN, s_if, w_getE, w_items, w_keys, w_fmt, w_js0, w_js, s_asg1, s_store, s_tryAs, s_try, w_isX, s_raise, List.map_cons, List.map_nil, List.cons_append, List.nil_append, List.length_cons, List.length_nil, List.replicate_succ, List.replicate_zero, Nat.add_sub_cancel, Nat.sub_self, Nat.sub_zero, Nat.reduceAdd, Nat.reduceSub, Nat.zero_add, List.set_cons_succ, List.set_cons_zero, List.getElem?_cons_zero, List.getElem?_cons_succ, Option.some.injEq, exists_eq_left', exists_eq_left, exists_eq_right', U.bl.injEq, U.int.injEq, U.ref.injEq, U.str.injEq, atI_0, atI_1, atI_2, atI_3, atI_4, atI_5, if_true, if_false, true_and, and_true, decide_true, decide_false, Bool.not_true, Bool.not_false, reduceCtorEq, ite_true, ite_false, decide_eq_true_eq, Bool.true_eq_false, Bool.false_eq_true])
/-! the numbers of a script -/
structure NumsS (g : List U → Mem → Res U) : Prop where
  ap : ∀ {ns : List Int} {many : Int} {μ : Mem} {Q : U → Mem → Prop} {E : Str → Mem → Prop}, ns.length ≤ 63 → 0 < many → many ≤ 1000 →
  (∀ (nums : List Int) μ' r, (nums.length : Int) = many → (∀ x ∈ nums, 0 ≤ x ∧ x < 2147483648) → Fr μ μ' → μ.length ≤ r → μ'[r]? = some (.lst (nums.map U.int)) → Q (.ref r) μ') → wpE (g [.frl (ns.map U.int), .int many] μ) Q E
theorem big48271 : big64 48271 = true := by decide
theorem big69621 : big64 69621 = true := by decide
theorem big16807 : big64 16807 = true := by decide
theorem big7 : big64 7 = true := by decide
def NumsI (μ : Mem) (m : Nat) (μ' : Mem) : Prop := ∃ nums : List Int, nums.length ≤ m ∧ (∀ x ∈ nums, 0 ≤ x ∧ x < 2147483648) ∧ μ'[μ.length]? = some (.lst (nums.map U.int)) ∧ Fr μ μ'
theorem nums_push {μ μ' : Mem} {nums : List Int} {x : Int} (h : ∀ x ∈ nums, 0 ≤ x ∧ x < 2147483648) (hx : 0 ≤ x ∧ x < 2147483648) (c : μ'[μ.length]? = some (.lst (nums.map U.int))) (f : Fr μ μ') {m : Nat} (hm : nums.length + 1 ≤ m) :
    NumsI μ m (μ'.set μ.length (.lst (nums.map U.int ++ [.int x]))) := by
  refine ⟨nums ++ [x], by simpa using hm, fun y hy => ?_, ?_, f.put (Nat.le_refl _)⟩
  · rcases List.mem_append.mp hy with q | q
    · exact h y q
    · simp at q; subst q; exact hx
  · rw [get_set c]; simp
theorem fmod_in' (x : Int) : 0 ≤ x.fmod 2147483647 ∧ x.fmod 2147483647 < 2147483647 := Dg.fmod_in (by decide)
theorem fdiv_in {y : Int} (h : 0 ≤ y ∧ y < 2147483647) {d : Int} (hd : 0 < d := by decide) : 0 ≤ y.fdiv d ∧ y.fdiv d < 2147483648 := by
  rw [Int.fdiv_eq_ediv_of_nonneg _ (by omega)]
  refine ⟨Int.ediv_nonneg h.1 (by omega), ?_⟩
  have := Int.ediv_le_self d h.1
  omega
theorem nums_s {C : Calls} : NumsS (runDef 9 (b__law_numbers C)) := by
  constructor
  intro ns many μ Q E hl h0 h1 q
  unfold b__law_numbers
  walk_at "go"
  refine ⟨by simp [okR]; omega, ?_⟩
  refine for_go (fun i s' μ' => i ≤ ns.length ∧ (∃ x3 x4 x5 x6 x7 x8, s' = [some (.frl (ns.map U.int)), some (.int many), some (.ref μ.length), x3, x4, x5, x6, x7, x8]) ∧ NumsI μ many.toNat μ') ns.length (by omega) ⟨by omega, ⟨_, _, _, _, _, _, rfl⟩, [], by simp, by simp, by simp, Fr.refl.snoc⟩ (fun i s' μ' h => h.1) ?_
  rintro i s' μ' ⟨hi, ⟨x3, x4, x5, x6, x7, x8, rfl⟩, nums, n1, n2, c, f⟩
  rw [item_rng]
  have hlm : ((List.map U.int ns).length : Int).toNat = ns.length := by simp
  by_cases e : i < ns.length
  · right
    refine ⟨_, _, by rw [if_pos (by rw [hlm]; exact e)], rfl, ?_⟩
    walk_at "go"
    refine ⟨.int ns[i], by rw [show (0 : Int) + (i : Int) * 1 = (i : Nat) by omega, Dg.atI_nat]; simp [e], ?_⟩
    walk_at "go"
    split
    · refine for_go (fun j s' μ' => j ≤ 60 ∧ (∃ cell x3 x5 x6 x7 x8, s' = [some (.frl (ns.map U.int)), some (.int many), some (.ref μ.length), x3, some (.int cell), x5, x6, x7, x8]) ∧ NumsI μ many.toNat μ') 60 (by omega) ⟨by omega, ⟨_, _, _, _, _, _, rfl⟩, nums, n1, n2, c, f⟩ (fun i s' μ' h => h.1) ?_
      rintro j s'' μ'' ⟨hj, ⟨cell, y3, y5, y6, y7, y8, rfl⟩, nums', n1', n2', c', f'⟩
      rw [item_rng]
      by_cases ej : j < 60
      · right
        refine ⟨_, _, by rw [if_pos (by simpa using ej)], rfl, ?_⟩
        walk_at "go"
        split
        · rw [w_lenL c']
          walk_at "go"
          split
          · rename_i hlt
            refine ⟨_, lstU_L c', ?_⟩
            try simp only [List.length_map] at hlt
            rw [w_append c' (by simp [lim]; omega)]
            refine ⟨by omega, ⟨_, _, _, _, _, _, rfl⟩, ?_⟩
            obtain ⟨b1, b2⟩ := Dg.fmod_in (x := cell) (m := 10007) (by decide)
            exact nums_push n2' ⟨b1, by omega⟩ c' f' (by omega)
          · exact ⟨by omega, ⟨_, _, _, _, _, _, rfl⟩, nums', n1', n2', c', f'⟩
        · exact ⟨by omega, ⟨_, _, _, _, _, _, rfl⟩, nums', n1', n2', c', f'⟩
      · left
        refine ⟨by rw [if_neg (by simpa using ej)], ?_⟩
        exact ⟨by omega, ⟨_, _, _, _, _, _, rfl⟩, nums', n1', n2', c', f'⟩
    · rw [w_lenL c]
      walk_at "go"
      split
      · rename_i hlt
        try simp only [List.length_map] at hlt
        try simp (config := {decide := true}) only [big48271, big69621, big16807, big7, Bool.or_true, Bool.true_or, w_run, w_op, w_isi, Dg.wipeU, w_powI, w_intB, w_sl, w_oNone, w_oSome, w_slT, w_slF, w_ixF, w_lenF, w_abs, w_max2, w_min2, w_fdivI, w_neg, w_andE, w_orE, w_notE, w_chain, w_c, w_var, w_call, w_def, w_anil, w_acons, w_tup, w_lst, w_int, w_intB, w_lenT, w_addI, w_subI, w_modI, w_mulI, w_ltI, w_leI, w_gtI, w_geI, w_eq, w_ne, w_ixT, w_if, w_nt, w_an, w_or, w_all, w_tstB, w_tst, w_app, w_lc, w_for, w_iseqT, w_rg1, w_rev1, w_d0, Dg.eq_str, Dg.eq_int, s_seq, s_next, s_brk, s_cnt, s_expr, s_ret, s_retN, s_if, w_getE, w_items, w_keys, w_fmt, w_js0, w_js, s_asg1, s_store, s_tryAs, s_try, w_isX, s_raise, List.map_cons, List.map_nil, List.cons_append, List.nil_append, List.length_cons, List.length_nil, List.replicate_succ, List.replicate_zero, Nat.add_sub_cancel, Nat.sub_self, Nat.sub_zero, Nat.reduceAdd, Nat.reduceSub, Nat.zero_add, List.set_cons_succ, List.set_cons_zero, List.getElem?_cons_zero, List.getElem?_cons_succ, Option.some.injEq, exists_eq_left', exists_eq_left, exists_eq_right', U.bl.injEq, U.int.injEq, U.ref.injEq, U.str.injEq, atI_0, atI_1, atI_2, atI_3, atI_4, atI_5, if_true, if_false, true_and, and_true, decide_true, decide_false, Bool.not_true, Bool.not_false, reduceCtorEq, ite_true, ite_false, decide_eq_true_eq, Bool.true_eq_false, Bool.false_eq_true]
        refine ⟨_, lstU_L c, ?_⟩
        try simp (config := {decide := true}) only [big48271, big69621, big16807, big7, Bool.or_true, Bool.true_or, w_run, w_op, w_isi, Dg.wipeU, w_powI, w_intB, w_sl, w_oNone, w_oSome, w_slT, w_slF, w_ixF, w_lenF, w_abs, w_max2, w_min2, w_fdivI, w_neg, w_andE, w_orE, w_notE, w_chain, w_c, w_var, w_call, w_def, w_anil, w_acons, w_tup, w_lst, w_int, w_intB, w_lenT, w_addI, w_subI, w_modI, w_mulI, w_ltI, w_leI, w_gtI, w_geI, w_eq, w_ne, w_ixT, w_if, w_nt, w_an, w_or, w_all, w_tstB, w_tst, w_app, w_lc, w_for, w_iseqT, w_rg1, w_rev1, w_d0, Dg.eq_str, Dg.eq_int, s_seq, s_next, s_brk, s_cnt, s_expr, s_ret, s_retN, s_if, w_getE, w_items, w_keys, w_fmt, w_js0, w_js, s_asg1, s_store, s_tryAs, s_try, w_isX, s_raise, List.map_cons, List.map_nil, List.cons_append, List.nil_append, List.length_cons, List.length_nil, List.replicate_succ, List.replicate_zero, Nat.add_sub_cancel, Nat.sub_self, Nat.sub_zero, Nat.reduceAdd, Nat.reduceSub, Nat.zero_add, List.set_cons_succ, List.set_cons_zero, List.getElem?_cons_zero, List.getElem?_cons_succ, Option.some.injEq, exists_eq_left', exists_eq_left, exists_eq_right', U.bl.injEq, U.int.injEq, U.ref.injEq, U.str.injEq, atI_0, atI_1, atI_2, atI_3, atI_4, atI_5, if_true, if_false, true_and, and_true, decide_true, decide_false, Bool.not_true, Bool.not_false, reduceCtorEq, ite_true, ite_false, decide_eq_true_eq, Bool.true_eq_false, Bool.false_eq_true]
        rw [w_append c (by simp [lim]; omega)]
        refine ⟨by omega, ⟨_, _, _, _, _, _, rfl⟩, ?_⟩
        refine nums_push n2 ?_ c f (by omega)
        exact fdiv_in (fmod_in' _)
      · exact ⟨by omega, ⟨_, _, _, _, _, _, rfl⟩, nums, n1, n2, c, f⟩
  · left
    refine ⟨by rw [if_neg (by rw [hlm]; exact e)], ?_⟩
    walk_at "go"
    rw [w_lenL c]
    walk_at "go"
    refine ⟨by simp [okR]; omega, ?_⟩
    have hb : nums.length ≤ many.toNat := n1
    refine for_go (fun i s' μ' => i ≤ (max 0 (many - ((nums.map U.int).length : Int))).toNat ∧ (∃ last x3 x4 x5 x6, s' = [some (.frl (ns.map U.int)), some (.int many), some (.ref μ.length), x3, x4, x5, x6, some (.int (nums.map U.int).length), some (.int last)]) ∧ ∃ nums' : List Int, nums'.length = nums.length + i ∧ (∀ x ∈ nums', 0 ≤ x ∧ x < 2147483648) ∧ μ'[μ.length]? = some (.lst (nums'.map U.int)) ∧ Fr μ μ') ((max 0 (many - ((nums.map U.int).length : Int))).toNat) (by omega) ⟨by omega, ⟨_, _, _, _, _, rfl⟩, nums, by omega, n2, c, f⟩ (fun i s' μ' h => h.1) ?_
    rintro i s'' μ'' ⟨hi', ⟨last, y3, y4, y5, y6, rfl⟩, nums', n1', n2', c', f'⟩
    rw [item_rng]
    by_cases ej : i < (max 0 (many - ((nums.map U.int).length : Int))).toNat
    · right
      simp only [List.length_map] at ej
      refine ⟨_, _, by rw [if_pos (by simpa using ej)], rfl, ?_⟩
      walk_at "go"
      have hlen : (nums.map U.int).length = nums.length := by simp
      have fin : ∀ last' : Int, i + 1 ≤ (max 0 (many - ((nums.map U.int).length : Int))).toNat ∧ (∃ last x3 x4 x5 x6, [some (.frl (ns.map U.int)), some (.int many), some (.ref μ.length), some (.int (0 + (i : Int) * 1)), y4, y5, y6, some (.int (nums.map U.int).length), some (.int ((last' * 48271 + (0 + (i : Int) * 1)).fmod 2147483647))] = [some (.frl (ns.map U.int)), some (.int many), some (.ref μ.length), x3, x4, x5, x6, some (.int (nums.map U.int).length), some (.int last)]) ∧ ∃ nums'' : List Int, nums''.length = nums.length + (i + 1) ∧ (∀ x ∈ nums'', 0 ≤ x ∧ x < 2147483648) ∧ (μ''.set μ.length (.lst (nums'.map U.int ++ [.int (((last' * 48271 + (0 + (i : Int) * 1)).fmod 2147483647).fdiv 7)])))[μ.length]? = some (.lst (nums''.map U.int)) ∧ Fr μ (μ''.set μ.length (.lst (nums'.map U.int ++ [.int (((last' * 48271 + (0 + (i : Int) * 1)).fmod 2147483647).fdiv 7)]))) := by
        intro last'
        refine ⟨by rw [hlen]; omega, ⟨_, _, _, _, _, rfl⟩, nums' ++ [((last' * 48271 + (0 + (i : Int) * 1)).fmod 2147483647).fdiv 7], by simp; omega, fun y hy => ?_, by rw [get_set c']; simp, f'.put (Nat.le_refl _)⟩
        rcases List.mem_append.mp hy with q | q
        · exact n2' y q
        · simp at q; subst q; exact fdiv_in (fmod_in' _)
      split
      · rename_i hp
        refine ⟨by omega, ?_⟩
        rw [w_ixL c']
        obtain ⟨b1, b2⟩ := Dg.fmod_in (x := 0 + (i : Int) * 1) hp
        obtain ⟨w, a1, a2⟩ := Dg.atI_in (xs := nums'.map U.int) b1 (by simp at b2 ⊢; omega)
        obtain ⟨z, _, rfl⟩ := List.mem_map.mp a2
        refine ⟨_, a1, ?_⟩
        simp (config := {decide := true}) only [big48271, Bool.or_true, w_run, w_op, w_isi, Dg.wipeU, w_powI, w_intB, w_sl, w_oNone, w_oSome, w_slT, w_slF, w_ixF, w_lenF, w_abs, w_max2, w_min2, w_fdivI, w_neg, w_andE, w_orE, w_notE, w_chain, w_c, w_var, w_call, w_def, w_anil, w_acons, w_tup, w_lst, w_int, w_intB, w_lenT, w_addI, w_subI, w_modI, w_mulI, w_ltI, w_leI, w_gtI, w_geI, w_eq, w_ne, w_ixT, w_if, w_nt, w_an, w_or, w_all, w_tstB, w_tst, w_app, w_lc, w_for, w_iseqT, w_rg1, w_rev1, w_d0, Dg.eq_str, Dg.eq_int, s_seq, s_next, s_brk, s_cnt, s_expr, s_ret, s_retN, s_if, w_getE, w_items, w_keys, w_fmt, w_js0, w_js, s_asg1, s_store, s_tryAs, s_try, w_isX, s_raise, List.map_cons, List.map_nil, List.cons_append, List.nil_append, List.length_cons, List.length_nil, List.replicate_succ, List.replicate_zero, Nat.add_sub_cancel, Nat.sub_self, Nat.sub_zero, Nat.reduceAdd, Nat.reduceSub, Nat.zero_add, List.set_cons_succ, List.set_cons_zero, List.getElem?_cons_zero, List.getElem?_cons_succ, Option.some.injEq, exists_eq_left', exists_eq_left, exists_eq_right', U.bl.injEq, U.int.injEq, U.ref.injEq, U.str.injEq, atI_0, atI_1, atI_2, atI_3, atI_4, atI_5, if_true, if_false, true_and, and_true, decide_true, decide_false, Bool.not_true, Bool.not_false, reduceCtorEq, ite_true, ite_false, decide_eq_true_eq, Bool.true_eq_false, Bool.false_eq_true]
        refine ⟨_, lstU_L c', ?_⟩
        rw [w_append c' (by simp [lim]; omega)]
        exact fin _
      · simp (config := {decide := true}) only [big48271, Bool.or_true, w_run, w_op, w_isi, Dg.wipeU, w_powI, w_intB, w_sl, w_oNone, w_oSome, w_slT, w_slF, w_ixF, w_lenF, w_abs, w_max2, w_min2, w_fdivI, w_neg, w_andE, w_orE, w_notE, w_chain, w_c, w_var, w_call, w_def, w_anil, w_acons, w_tup, w_lst, w_int, w_intB, w_lenT, w_addI, w_subI, w_modI, w_mulI, w_ltI, w_leI, w_gtI, w_geI, w_eq, w_ne, w_ixT, w_if, w_nt, w_an, w_or, w_all, w_tstB, w_tst, w_app, w_lc, w_for, w_iseqT, w_rg1, w_rev1, w_d0, Dg.eq_str, Dg.eq_int, s_seq, s_next, s_brk, s_cnt, s_expr, s_ret, s_retN, s_if, w_getE, w_items, w_keys, w_fmt, w_js0, w_js, s_asg1, s_store, s_tryAs, s_try, w_isX, s_raise, List.map_cons, List.map_nil, List.cons_append, List.nil_append, List.length_cons, List.length_nil, List.replicate_succ, List.replicate_zero, Nat.add_sub_cancel, Nat.sub_self, Nat.sub_zero, Nat.reduceAdd, Nat.reduceSub, Nat.zero_add, List.set_cons_succ, List.set_cons_zero, List.getElem?_cons_zero, List.getElem?_cons_succ, Option.some.injEq, exists_eq_left', exists_eq_left, exists_eq_right', U.bl.injEq, U.int.injEq, U.ref.injEq, U.str.injEq, atI_0, atI_1, atI_2, atI_3, atI_4, atI_5, if_true, if_false, true_and, and_true, decide_true, decide_false, Bool.not_true, Bool.not_false, reduceCtorEq, ite_true, ite_false, decide_eq_true_eq, Bool.true_eq_false, Bool.false_eq_true]
        refine ⟨_, lstU_L c', ?_⟩
        rw [w_append c' (by simp [lim]; omega)]
        exact fin _
    · left
      refine ⟨by rw [if_neg (by simpa using ej)], ?_⟩
      walk_at "go"
      rw [w_slL c']
      simp only [List.length_map] at ej hi'
      refine q (nums'.take many.toNat) _ _ (by simp; omega) (fun x hx => n2' x (List.mem_of_mem_take hx)) f'.snoc f'.le ?_
      rw [cutU_take (by omega)]
      simp
/-! machines -/
structure Mc where
  L : Nat
  mv : List (List Int)
  ac : List Bool
def rwU (r : List Int) : U := .tup (r.map U.int)
def mU (M : Mc) : U := .tup [.int M.L, .tup (M.mv.map rwU), .tup (M.ac.map U.bl)]
structure Mc.ok (M : Mc) : Prop where
  ac : M.ac.length = M.mv.length
  row : ∀ r ∈ M.mv, r.length = M.L ∧ ∀ t ∈ r, -1 ≤ t ∧ t < M.mv.length
structure LawMachineS (g : List U → Mem → Res U) : Prop where
  ap : ∀ {nums : List Int} {r : Nat} {μ : Mem} {at_ gaps : Int} {L S : Nat} {Q : U → Mem → Prop} {E : Str → Mem → Prop}, μ[r]? = some (.lst (nums.map U.int)) → nums ≠ [] → (∀ x ∈ nums, 0 ≤ x) → L ≤ 200 → S ≤ 400 →
    (∀ (M : Mc) μ', M.ok → M.L = L → M.mv.length = S → Fr μ μ' → Q (mU M) μ') → wpE (g [.ref r, .int at_, .int L, .int S, .int gaps] μ) Q E
theorem num_at {nums : List Int} {i : Int} (h : nums ≠ []) (h2 : ∀ x ∈ nums, 0 ≤ x) : ∃ x : Int, atI (nums.map U.int) (i.fmod (nums.length : Int)) = some (.int x) ∧ 0 ≤ x := by
  have hl : 0 < (nums.length : Int) := by
    have := List.length_pos_iff.mpr h
    omega
  obtain ⟨a1, a2⟩ := Dg.fmod_in (x := i) hl
  obtain ⟨w, b1, b2⟩ := Dg.atI_in (xs := nums.map U.int) a1 (by simpa using a2)
  obtain ⟨z, hz, rfl⟩ := List.mem_map.mp b2
  exact ⟨z, b1, h2 z hz⟩
theorem law_machine_s {C : Calls} : LawMachineS (runDef 12 (b__law_machine C)) := by
  constructor
  intro nums r μ at_ gaps L S Q E hr hne hpos hL hS q
  have hlen : 0 < nums.length := List.length_pos_iff.mpr hne
  unfold b__law_machine
  walk_at "go"
  refine ⟨by simp [okR]; omega, ?_⟩
  have e1 : (μ ++ [Cell.lst []]).length = μ.length + 1 := by simp
  rw [e1]
  refine for_rng S (fun i s' μ' => (∃ x7 x8 x9 x10 x11, s' = [some (.ref r), some (.int at_), some (.int L), some (.int S), some (.int gaps), some (.ref μ.length), some (.ref (μ.length + 1)), x7, x8, x9, x10, x11]) ∧
    ∃ (mv : List (List Int)) (ac : List Bool), mv.length = i ∧ ac.length = i ∧ (∀ w ∈ mv, w.length = L ∧ ∀ t ∈ w, -1 ≤ t ∧ t < S) ∧ μ'[μ.length]? = some (.lst (mv.map rwU)) ∧ μ'[μ.length + 1]? = some (.lst (ac.map U.bl)) ∧ Fr μ μ') (by simp) (by omega)
    ⟨⟨_, _, _, _, _, rfl⟩, [], [], rfl, rfl, by simp, by simp, by simp, (Fr.refl.snoc).snoc⟩ ?_ ?_
  · rintro i s' μ1 hi ⟨⟨x7, x8, x9, x10, x11, rfl⟩, mv, ac, m1, m2, m3, c1, c2, f1⟩
    refine ⟨_, rfl, ?_⟩
    walk_at "go"
    refine ⟨by simp [okR]; omega, ?_⟩
    have l2 := get_lt c2
    refine for_rng L (fun j s' μ' => (∃ x9 x10 x11, s' = [some (.ref r), some (.int at_), some (.int L), some (.int S), some (.int gaps), some (.ref μ.length), some (.ref (μ.length + 1)), some (.int i), some (.ref μ1.length), x9, x10, x11]) ∧
      ∃ w : List Int, w.length = j ∧ (∀ t ∈ w, -1 ≤ t ∧ t < S) ∧ μ'[μ1.length]? = some (.lst (w.map U.int)) ∧ Fr μ1 μ') (by simp) (by omega)
      ⟨⟨_, _, _, rfl⟩, [], rfl, by simp, by simp, Fr.refl.snoc⟩ ?_ ?_
    · rintro j s' μ2 hj ⟨⟨x9, x10, x11, rfl⟩, w, w1, w2, c3, f2⟩
      refine ⟨_, rfl, ?_⟩
      have cr := f2.at_ _ _ (f1.at_ _ _ hr)
      have hb : big64 (i : Int) = true := by simp [big64]; omega
      simp (config := {decide := true}) only [hb, Bool.true_or, w_run, w_op, w_isi, Dg.wipeU, w_powI, w_intB, w_sl, w_oNone, w_oSome, w_slT, w_slF, w_ixF, w_lenF, w_abs, w_max2, w_min2, w_fdivI, w_neg, w_andE, w_orE, w_notE, w_chain, w_c, w_var, w_call, w_def, w_anil, w_acons, w_tup, w_lst, w_int, w_intB, w_lenT, w_addI, w_subI, w_modI, w_mulI, w_ltI, w_leI, w_gtI, w_geI, w_eq, w_ne, w_ixT, w_if, w_nt, w_an, w_or, w_all, w_tstB, w_tst, w_app, w_lc, w_for, w_iseqT, w_rg1, w_rev1, w_d0, Dg.eq_str, Dg.eq_int, s_seq, s_next, s_brk, s_cnt, s_expr, s_ret, s_retN, s_if, w_getE, w_items, w_keys, w_fmt, w_js0, w_js, s_asg1, s_store, s_tryAs, s_try, w_isX, s_raise, List.map_cons, List.map_nil, List.cons_append, List.nil_append, List.length_cons, List.length_nil, List.replicate_succ, List.replicate_zero, Nat.add_sub_cancel, Nat.sub_self, Nat.sub_zero, Nat.reduceAdd, Nat.reduceSub, Nat.zero_add, List.set_cons_succ, List.set_cons_zero, List.getElem?_cons_zero, List.getElem?_cons_succ, Option.some.injEq, exists_eq_left', exists_eq_left, exists_eq_right', U.bl.injEq, U.int.injEq, U.ref.injEq, U.str.injEq, atI_0, atI_1, atI_2, atI_3, atI_4, atI_5, if_true, if_false, true_and, and_true, decide_true, decide_false, Bool.not_true, Bool.not_false, reduceCtorEq, ite_true, ite_false, decide_eq_true_eq, Bool.true_eq_false, Bool.false_eq_true]
      rw [w_lenL cr]
      walk_at "go"
      refine ⟨by simp; omega, ?_⟩
      rw [w_ixL cr, List.length_map]
      obtain ⟨x, a1, a2⟩ := num_at (i := at_ + (i : Int) * (L : Int) + (j : Int)) hne hpos
      refine ⟨_, a1, ?_⟩
      walk_at "go"
      have hS0 : (S : Int) ≠ 0 := by omega
      refine ⟨hS0, ?_⟩
      obtain ⟨b1, b2⟩ := Dg.fmod_in (x := x.fdiv 7) (m := (S : Int)) (by omega)
      have fin : ∀ t : Int, -1 ≤ t → t < S → ∃ us, lstU μ2 (.ref μ1.length) = some us ∧ wpE (gAppend (.ref μ1.length) [.int t] μ2) (fun _ μ' => (∃ x9 x10 x11, [some (U.ref r), some (.int at_), some (.int L), some (.int S), some (.int gaps), some (.ref μ.length), some (.ref (μ.length + 1)), some (.int i), some (.ref μ1.length), some (.int j), some (.int x), some (.int t)] = [some (.ref r), some (.int at_), some (.int L), some (.int S), some (.int gaps), some (.ref μ.length), some (.ref (μ.length + 1)), some (.int i), some (.ref μ1.length), x9, x10, x11]) ∧
          ∃ w : List Int, w.length = j + 1 ∧ (∀ t ∈ w, -1 ≤ t ∧ t < S) ∧ μ'[μ1.length]? = some (.lst (w.map U.int)) ∧ Fr μ1 μ') (fun c μ => E c μ) := by
        intro t t1 t2
        refine ⟨_, lstU_L c3, ?_⟩
        rw [w_append c3 (by simp [lim]; omega)]
        refine ⟨⟨_, _, _, rfl⟩, w ++ [t], by simp; omega, fun y hy => ?_, by rw [get_set c3]; simp, f2.put (Nat.le_refl _)⟩
        rcases List.mem_append.mp hy with h | h
        · exact w2 y h
        · simp at h; subst h; exact ⟨t1, t2⟩
      split
      · exact fin (-1) (by omega) (by omega)
      · exact fin _ (by omega) b2
    · rintro s' μ2 ⟨⟨x9, x10, x11, rfl⟩, w, w1, w2, c3, f2⟩
      have cr := f2.at_ _ _ (f1.at_ _ _ hr)
      have ca := f2.at_ _ _ c1
      have cb := f2.at_ _ _ c2
      have l3 := get_lt c3
      walk_at "go"
      refine ⟨_, lstU_L ca, ?_⟩
      rw [w_tupleL c3, w_append ca (by simp [lim]; omega)]
      have cb' : (μ2.set μ.length (.lst (List.map rwU mv ++ [.tup (w.map U.int)])))[μ.length + 1]? = some (.lst (ac.map U.bl)) := get_set_ne cb (by omega)
      have lr := get_lt hr
      have cr' : (μ2.set μ.length (.lst (List.map rwU mv ++ [.tup (w.map U.int)])))[r]? = some (.lst (nums.map U.int)) := get_set_ne cr (by omega)
      refine ⟨_, lstU_L cb', ?_⟩
      rw [w_lenL cr']
      walk_at "go"
      refine ⟨by simp; omega, ?_⟩
      rw [w_ixL cr', List.length_map]
      obtain ⟨x, a1, a2⟩ := num_at (i := at_ + 131 + (i : Int)) hne hpos
      refine ⟨_, a1, ?_⟩
      walk_at "go"
      rw [w_append cb' (by simp [lim]; omega)]
      refine ⟨⟨_, _, _, _, _, rfl⟩, mv ++ [w], ac ++ [_], by simp; omega, by simp; omega, fun y hy => ?_, ?_, by rw [get_set cb']; simp; rfl, ((f1.trans f2).put (Nat.le_refl _)).put (by omega)⟩
      · rcases List.mem_append.mp hy with h | h
        · exact m3 y h
        · simp at h; subst h; exact ⟨w1, w2⟩
      · rw [get_set_ne (get_set ca) (by omega)]
        simp [rwU]
  · rintro s' μ1 ⟨⟨x7, x8, x9, x10, x11, rfl⟩, mv, ac, m1, m2, m3, c1, c2, f1⟩
    walk_at "go"
    rw [w_tupleL c1, w_tupleL c2]
    exact q ⟨L, mv, ac⟩ μ1 ⟨by simp; omega, fun w hw => by simp only; rw [m1]; exact m3 w hw⟩ rfl m1 f1
def gU (L : Int) (mv : List (List Int)) (ac : List Bool) : U := .tup [.int L, .tup (mv.map rwU), .tup (ac.map U.bl)]
def okRow (L : Int) (S : Nat) (r : List Int) : Bool := decide ((r.length : Int) = L) && r.all fun t => decide (-1 ≤ t) && decide (t < S)
structure AreS (g : List U → Mem → Res U) : Prop where
  ap : ∀ {r : List Int} {L : Int} {S : Nat} {μ : Mem} {Q : U → Mem → Prop} {E : Str → Mem → Prop}, r.length < 1000 → (∀ μ', Fr μ μ' → Q (.bl (okRow L S r)) μ') → wpE (g [rwU r, .int L, .int S] μ) Q E
theorem are_s {C : Calls} : AreS (runDef 4 (b_are_moves C)) := by
  constructor
  intro r L S μ Q E hl q
  unfold b_are_moves rwU
  walk_at "go"
  by_cases h : (r.length : Int) = L
  · simp (config := {decide := true}) only [List.length_map, h, w_run, w_op, w_isi, Dg.wipeU, w_powI, w_intB, w_sl, w_oNone, w_oSome, w_slT, w_slF, w_ixF, w_lenF, w_abs, w_max2, w_min2, w_fdivI, w_neg, w_andE, w_orE, w_notE, w_chain, w_c, w_var, w_call, w_def, w_anil, w_acons, w_tup, w_lst, w_int, w_intB, w_lenT, w_addI, w_subI, w_modI, w_mulI, w_ltI, w_leI, w_gtI, w_geI, w_eq, w_ne, w_ixT, w_if, w_nt, w_an, w_or, w_all, w_tstB, w_tst, w_app, w_lc, w_for, w_iseqT, w_rg1, w_rev1, w_d0, Dg.eq_str, Dg.eq_int, s_seq, s_next, s_brk, s_cnt, s_expr, s_ret, s_retN, s_if, w_getE, w_items, w_keys, w_fmt, w_js0, w_js, s_asg1, s_store, s_tryAs, s_try, w_isX, s_raise, List.map_cons, List.map_nil, List.cons_append, List.nil_append, List.length_cons, List.length_nil, List.replicate_succ, List.replicate_zero, Nat.add_sub_cancel, Nat.sub_self, Nat.sub_zero, Nat.reduceAdd, Nat.reduceSub, Nat.zero_add, List.set_cons_succ, List.set_cons_zero, List.getElem?_cons_zero, List.getElem?_cons_succ, Option.some.injEq, exists_eq_left', exists_eq_left, exists_eq_right', U.bl.injEq, U.int.injEq, U.ref.injEq, U.str.injEq, atI_0, atI_1, atI_2, atI_3, atI_4, atI_5, if_true, if_false, true_and, and_true, decide_true, decide_false, Bool.not_true, Bool.not_false, reduceCtorEq, ite_true, ite_false, decide_eq_true_eq, Bool.true_eq_false, Bool.false_eq_true]
    refine lc_map (fun u => match u with | .int t => .bl (decide (-1 ≤ t) && decide (t < S)) | _ => .non) (by simpa using (by omega : r.length < 1000000)) ?_ ?_
    · intro i μ1 hi f1
      refine ⟨_, rfl, ?_⟩
      simp only [List.getElem_map]
      walk_at "go"
      by_cases h1 : -1 ≤ r[i]'(by simpa using hi)
      · simp [h1, Fr.refl]
      · simp [h1, Fr.refl]
    · intro μ1 f1 c1
      have e : blsU ((List.map U.int r).map (fun u => match u with | .int t => .bl (decide (-1 ≤ t) && decide (t < (S : Int))) | _ => .non)) = some (r.map fun t : Int => decide (-1 ≤ t) && decide (t < (S : Int))) := by
        rw [List.map_map]
        exact blsU_map (fun t : Int => decide (-1 ≤ t) && decide (t < (S : Int))) r
      rw [w_allL c1 e]
      have := q μ1 f1
      simpa [okRow, h] using this
  · simp (config := {decide := true}) only [List.length_map, h, w_run, w_op, w_isi, Dg.wipeU, w_powI, w_intB, w_sl, w_oNone, w_oSome, w_slT, w_slF, w_ixF, w_lenF, w_abs, w_max2, w_min2, w_fdivI, w_neg, w_andE, w_orE, w_notE, w_chain, w_c, w_var, w_call, w_def, w_anil, w_acons, w_tup, w_lst, w_int, w_intB, w_lenT, w_addI, w_subI, w_modI, w_mulI, w_ltI, w_leI, w_gtI, w_geI, w_eq, w_ne, w_ixT, w_if, w_nt, w_an, w_or, w_all, w_tstB, w_tst, w_app, w_lc, w_for, w_iseqT, w_rg1, w_rev1, w_d0, Dg.eq_str, Dg.eq_int, s_seq, s_next, s_brk, s_cnt, s_expr, s_ret, s_retN, s_if, w_getE, w_items, w_keys, w_fmt, w_js0, w_js, s_asg1, s_store, s_tryAs, s_try, w_isX, s_raise, List.map_cons, List.map_nil, List.cons_append, List.nil_append, List.length_cons, List.length_nil, List.replicate_succ, List.replicate_zero, Nat.add_sub_cancel, Nat.sub_self, Nat.sub_zero, Nat.reduceAdd, Nat.reduceSub, Nat.zero_add, List.set_cons_succ, List.set_cons_zero, List.getElem?_cons_zero, List.getElem?_cons_succ, Option.some.injEq, exists_eq_left', exists_eq_left, exists_eq_right', U.bl.injEq, U.int.injEq, U.ref.injEq, U.str.injEq, atI_0, atI_1, atI_2, atI_3, atI_4, atI_5, if_true, if_false, true_and, and_true, decide_true, decide_false, Bool.not_true, Bool.not_false, reduceCtorEq, ite_true, ite_false, decide_eq_true_eq, Bool.true_eq_false, Bool.false_eq_true]
    have := q μ .refl
    simpa [okRow, h] using this
def okM (L : Int) (mv : List (List Int)) (ac : List Bool) : Prop := (0 ≤ L ∧ L ≤ 200) ∧ mv.length ≤ 400 ∧ ac.length = mv.length ∧ mv.all (okRow L mv.length) = true
structure CheckS (g : List U → Mem → Res U) : Prop where
  good : ∀ {L : Int} {mv : List (List Int)} {ac : List Bool} {μ : Mem} {Q : U → Mem → Prop} {E : Str → Mem → Prop}, mv.length < 1000 → (∀ r ∈ mv, r.length < 1000) → okM L mv ac → (∀ μ', Fr μ μ' → Q .non μ') → wpE (g [gU L mv ac] μ) Q E
  bad : ∀ {L : Int} {mv : List (List Int)} {ac : List Bool} {μ : Mem} {Q : U → Mem → Prop} {E : Str → Mem → Prop}, mv.length < 1000 → (∀ r ∈ mv, r.length < 1000) → ¬ okM L mv ac → (∀ μ', Fr μ μ' → E "NotAllowed" μ') → wpE (g [gU L mv ac] μ) Q E
theorem ne_true {b : Bool} : (!b) = true ↔ b = false := by cases b <;> simp
theorem check_both {C : Calls} (h0 : AreS (C 0)) {L : Int} {mv : List (List Int)} {ac : List Bool} {μ : Mem} {Q : U → Mem → Prop} {E : Str → Mem → Prop} (hm : mv.length < 1000) (hr : ∀ r ∈ mv, r.length < 1000)
    (q1 : okM L mv ac → ∀ μ', Fr μ μ' → Q .non μ') (q2 : ¬ okM L mv ac → ∀ μ', Fr μ μ' → E "NotAllowed" μ') : wpE (runDef 5 (b_check_machine C) [gU L mv ac] μ) Q E := by
  have t200 : (toString (200 : Int) : Str).length = 3 := by decide +kernel
  have t400 : (toString (400 : Int) : Str).length = 3 := by decide +kernel
  have e0 : Str.empty.length = 0 := by decide +kernel
  unfold b_check_machine gU
  simp (config := {decide := true}) only [s_asg, setT, setAll, w_run, w_op, w_isi, Dg.wipeU, w_powI, w_intB, w_sl, w_oNone, w_oSome, w_slT, w_slF, w_ixF, w_lenF, w_abs, w_max2, w_min2, w_fdivI, w_neg, w_andE, w_orE, w_notE, w_chain, w_c, w_var, w_call, w_def, w_anil, w_acons, w_tup, w_lst, w_int, w_intB, w_lenT, w_addI, w_subI, w_modI, w_mulI, w_ltI, w_leI, w_gtI, w_geI, w_eq, w_ne, w_ixT, w_if, w_nt, w_an, w_or, w_all, w_tstB, w_tst, w_app, w_lc, w_for, w_iseqT, w_rg1, w_rev1, w_d0, Dg.eq_str, Dg.eq_int, s_seq, s_next, s_brk, s_cnt, s_expr, s_ret, s_retN, s_if, w_getE, w_items, w_keys, w_fmt, w_js0, w_js, s_asg1, s_store, s_tryAs, s_try, w_isX, s_raise, List.map_cons, List.map_nil, List.cons_append, List.nil_append, List.length_cons, List.length_nil, List.replicate_succ, List.replicate_zero, Nat.add_sub_cancel, Nat.sub_self, Nat.sub_zero, Nat.reduceAdd, Nat.reduceSub, Nat.zero_add, List.set_cons_succ, List.set_cons_zero, List.getElem?_cons_zero, List.getElem?_cons_succ, Option.some.injEq, exists_eq_left', exists_eq_left, exists_eq_right', U.bl.injEq, U.int.injEq, U.ref.injEq, U.str.injEq, atI_0, atI_1, atI_2, atI_3, atI_4, atI_5, if_true, if_false, true_and, and_true, decide_true, decide_false, Bool.not_true, Bool.not_false, reduceCtorEq, ite_true, ite_false, decide_eq_true_eq, Bool.true_eq_false, Bool.false_eq_true]
  have fm : ∀ n : Int, n = 200 ∨ n = 400 → ∀ pre : Str, pre.length ≤ 100 → ∀ post : Str, post.length ≤ 100 → ∃ y, fmtOk (.int n) y ∧ (Str.empty ++ pre ++ y).length ≤ lim ∧ (Str.empty ++ pre ++ y ++ post).length ≤ lim := by
    rintro n (rfl | rfl) pre hp post hq
    · refine ⟨_, fmt_int (by decide), ?_, ?_⟩
      · rw [len_app, len_app, e0, t200]; simp only [lim]; omega
      · rw [len_app, len_app, len_app, e0, t200]; simp only [lim]; omega
    · refine ⟨_, fmt_int (by decide), ?_, ?_⟩
      · rw [len_app, len_app, e0, t400]; simp only [lim]; omega
      · rw [len_app, len_app, len_app, e0, t400]; simp only [lim]; omega
  have one : ¬ (0 ≤ L ∧ L ≤ 200) → ∃ y, fmtOk (U.int 200) y ∧ (Str.empty ++ Str.ofString "the number of letters is not from 0 to " ++ y).length ≤ lim ∧ E (Str.ofString "NotAllowed") μ := fun h => by
    obtain ⟨y, a, b, _⟩ := fm 200 (.inl rfl) (Str.ofString "the number of letters is not from 0 to ") (by decide +kernel) Str.empty (by decide +kernel)
    exact ⟨y, a, b, q2 (fun z => h z.1) μ .refl⟩
  split
  · rename_i h1
    split
    · rename_i h2
      exact one fun z => by simp at h2; omega
    · rename_i h2
      have h2' : L ≤ 200 := by simpa using h2
      split
      · rename_i h3
        obtain ⟨y, a, b, c⟩ := fm 400 (.inr rfl) (Str.ofString "there are more than ") (by decide +kernel) (Str.ofString " states") (by decide +kernel)
        refine ⟨y, a, b, c, q2 (fun z => ?_) μ .refl⟩
        have := z.2.1
        simp at h3
        omega
      · rename_i h3
        simp at h3
        split
        · rename_i h4
          refine q2 (fun z => ?_) μ .refl
          have := z.2.2.1
          simp at h4
          omega
        · rename_i h4
          simp at h4
          refine lc_map (fun u => match u with | .tup ts => .bl (match intsU ts with | some is => okRow L mv.length is | none => false) | _ => .non) (by simpa using (by omega : mv.length < 1000000)) ?_ ?_
          · intro i μ1 hi f1
            have hi' : i < mv.length := by simpa using hi
            refine ⟨_, rfl, ?_⟩
            simp only [List.getElem_map]
            simp (config := {decide := true}) only [List.length_map, w_run, w_op, w_isi, Dg.wipeU, w_powI, w_intB, w_sl, w_oNone, w_oSome, w_slT, w_slF, w_ixF, w_lenF, w_abs, w_max2, w_min2, w_fdivI, w_neg, w_andE, w_orE, w_notE, w_chain, w_c, w_var, w_call, w_def, w_anil, w_acons, w_tup, w_lst, w_int, w_intB, w_lenT, w_addI, w_subI, w_modI, w_mulI, w_ltI, w_leI, w_gtI, w_geI, w_eq, w_ne, w_ixT, w_if, w_nt, w_an, w_or, w_all, w_tstB, w_tst, w_app, w_lc, w_for, w_iseqT, w_rg1, w_rev1, w_d0, Dg.eq_str, Dg.eq_int, s_seq, s_next, s_brk, s_cnt, s_expr, s_ret, s_retN, s_if, w_getE, w_items, w_keys, w_fmt, w_js0, w_js, s_asg1, s_store, s_tryAs, s_try, w_isX, s_raise, List.map_cons, List.map_nil, List.cons_append, List.nil_append, List.length_cons, List.length_nil, List.replicate_succ, List.replicate_zero, Nat.add_sub_cancel, Nat.sub_self, Nat.sub_zero, Nat.reduceAdd, Nat.reduceSub, Nat.zero_add, List.set_cons_succ, List.set_cons_zero, List.getElem?_cons_zero, List.getElem?_cons_succ, Option.some.injEq, exists_eq_left', exists_eq_left, exists_eq_right', U.bl.injEq, U.int.injEq, U.ref.injEq, U.str.injEq, atI_0, atI_1, atI_2, atI_3, atI_4, atI_5, if_true, if_false, true_and, and_true, decide_true, decide_false, Bool.not_true, Bool.not_false, reduceCtorEq, ite_true, ite_false, decide_eq_true_eq, Bool.true_eq_false, Bool.false_eq_true]
            refine h0.ap (hr _ (List.getElem_mem hi')) fun μ2 f2 => ⟨?_, f2⟩
            simp only [rwU]
            have := intsU_map (fun t : Int => t) mv[i]
            simp only [List.map_id'] at this
            rw [this]
          · intro μ1 f1 c1
            have e : blsU ((mv.map rwU).map (fun u => match u with | .tup ts => .bl (match intsU ts with | some is => okRow L mv.length is | none => false) | _ => .non)) = some (mv.map (okRow L mv.length)) := by
              rw [List.map_map]
              refine Eq.trans (congrArg blsU ?_) (blsU_map (okRow L mv.length) mv)
              refine List.map_congr_left fun r _ => ?_
              have := intsU_map (fun t : Int => t) r
              simp only [List.map_id'] at this
              simp only [Function.comp, rwU, this]
            rw [w_allL c1 e]
            refine ⟨_, tru_b, ?_⟩
            have e2 : (mv.map (okRow L mv.length)).all id = mv.all (okRow L mv.length) := by simp [List.all_map]
            rw [e2]
            split
            · rename_i h5
              refine q2 (fun z => ?_) μ1 f1
              rw [z.2.2.2] at h5
              cases h5
            · rename_i h5
              exact q1 ⟨⟨h1, h2'⟩, by omega, by omega, by simpa using h5⟩ μ1 f1
  · rename_i h1
    exact one fun z => h1 z.1
theorem check_s {C : Calls} (h0 : AreS (C 0)) : CheckS (runDef 5 (b_check_machine C)) where
  good := fun hm hr ok q => check_both h0 hm hr (fun _ => q) (fun h => absurd ok h)
  bad := fun hm hr ok q => check_both h0 hm hr (fun h => absurd h ok) (fun _ => q)
theorem cutU_last {α : Type} {us : List α} : cutU us none (some (-1)) = us.take (us.length - 1) := by
  unfold cutU
  show (us.drop 0).take (((-1 : Int) + (us.length : Int)).toNat - 0) = _
  simp only [List.drop_zero, Nat.sub_zero]
  congr 1
  omega
def IsBad (u : U) : Prop := ∃ (L : Int) (mv : List (List Int)) (ac : List Bool), u = gU L mv ac ∧ mv.length < 1000 ∧ (∀ r ∈ mv, r.length < 1000) ∧ ¬ okM L mv ac
structure LawBadS (g : List U → Mem → Res U) : Prop where
  ap : ∀ {M : Mc} {n : Int} {μ : Mem} {Q : U → Mem → Prop} {E : Str → Mem → Prop}, M.ok → M.L ≤ 200 → M.mv.length ≤ 400 → (∀ u μ', IsBad u → Fr μ μ' → Q u μ') → wpE (g [mU M, .int n] μ) Q E
theorem okRow_len {L : Int} {S : Nat} {r : List Int} (h : okRow L S r = true) : (r.length : Int) = L := by
  unfold okRow at h
  simp only [Bool.and_eq_true, decide_eq_true_eq] at h
  exact h.1
theorem okM_row {L : Int} {mv : List (List Int)} {ac : List Bool} (h : okM L mv ac) {r : List Int} (hr : r ∈ mv) : (r.length : Int) = L ∧ ∀ t ∈ r, -1 ≤ t ∧ t < (mv.length : Int) := by
  have h1 := List.all_eq_true.mp h.2.2.2 r hr
  unfold okRow at h1
  simp only [Bool.and_eq_true, decide_eq_true_eq, List.all_eq_true] at h1
  exact h1
theorem law_bad_s {C : Calls} : LawBadS (runDef 8 (b__law_bad C)) := by
  constructor
  rintro ⟨L, mv, ac⟩ n μ Q E ⟨ok1, ok2⟩ hL hS q
  simp only at ok1 ok2 hL hS
  have hrow : ∀ r ∈ mv, r.length < 1000 := fun r hr => by have := (ok2 r hr).1; omega
  unfold b__law_bad mU
  have lac : (ac.map U.bl).length + [U.bl true].length ≤ lim := by simp [lim]; omega
  have lmv : (mv.map rwU).length + (repU (1 : Int).toNat [U.tup []]).length ≤ lim := by simp [lim, repU]; omega
  simp (config := {decide := true}) only [s_asg, setT, setAll, w_addT lac, w_mulT (by decide : (-1000 : Int) ≤ 1 ∧ (1 : Int) ≤ 1000 ∧ [U.tup []].length ≤ 1000), w_addT lmv, w_run, w_op, w_isi, Dg.wipeU, w_powI, w_intB, w_sl, w_oNone, w_oSome, w_slT, w_slF, w_ixF, w_lenF, w_abs, w_max2, w_min2, w_fdivI, w_neg, w_andE, w_orE, w_notE, w_chain, w_c, w_var, w_call, w_def, w_anil, w_acons, w_tup, w_lst, w_int, w_intB, w_lenT, w_addI, w_subI, w_modI, w_mulI, w_ltI, w_leI, w_gtI, w_geI, w_eq, w_ne, w_ixT, w_if, w_nt, w_an, w_or, w_all, w_tstB, w_tst, w_app, w_lc, w_for, w_iseqT, w_rg1, w_rev1, w_d0, Dg.eq_str, Dg.eq_int, s_seq, s_next, s_brk, s_cnt, s_expr, s_ret, s_retN, s_if, w_getE, w_items, w_keys, w_fmt, w_js0, w_js, s_asg1, s_store, s_tryAs, s_try, w_isX, s_raise, List.map_cons, List.map_nil, List.cons_append, List.nil_append, List.length_cons, List.length_nil, List.replicate_succ, List.replicate_zero, Nat.add_sub_cancel, Nat.sub_self, Nat.sub_zero, Nat.reduceAdd, Nat.reduceSub, Nat.zero_add, List.set_cons_succ, List.set_cons_zero, List.getElem?_cons_zero, List.getElem?_cons_succ, Option.some.injEq, exists_eq_left', exists_eq_left, exists_eq_right', U.bl.injEq, U.int.injEq, U.ref.injEq, U.str.injEq, atI_0, atI_1, atI_2, atI_3, atI_4, atI_5, if_true, if_false, true_and, and_true, decide_true, decide_false, Bool.not_true, Bool.not_false, reduceCtorEq, ite_true, ite_false, decide_eq_true_eq, Bool.true_eq_false, Bool.false_eq_true]
  have b1 : IsBad (.tup [.int (-1), .tup [], .tup []]) := ⟨-1, [], [], rfl, by simp, by simp, fun h => by have := h.1.1; omega⟩
  have b2 : IsBad (.tup [.int 201, .tup [], .tup []]) := ⟨201, [], [], rfl, by simp, by simp, fun h => by have := h.1.2; omega⟩
  have b3 : IsBad (.tup [.int L, .tup (mv.map rwU), .tup (ac.map U.bl ++ [U.bl true])]) := ⟨L, mv, ac ++ [true], by simp [gU], by omega, hrow, fun h => by have := h.2.2.1; simp at this; omega⟩
  have b4 : IsBad (.tup [.int L, .tup (mv.map rwU ++ repU (1 : Int).toNat [U.tup []]), .tup (ac.map U.bl)]) := ⟨L, mv ++ [[]], ac, by simp [gU, repU, rwU], by simp; omega, fun r hr => by
    rcases List.mem_append.mp hr with h | h
    · exact hrow r h
    · simp at h; subst h; simp, fun h => by have := h.2.2.1; simp at this; omega⟩
  refine ⟨_, lstU_L get_snoc, ?_⟩
  refine lc_mapR 401 (fun _ => .tup [.int 0]) rfl (by omega) (fun i μ1 hi f1 => ⟨_, rfl, by walk_at "go"; exact .refl⟩) fun μ1 f1 c1 => ?_
  rw [w_tupleL c1]
  refine lc_mapR 401 (fun _ => .bl false) rfl (by omega) (fun i μ1 hi f1 => ⟨_, rfl, by walk_at "go"; exact .refl⟩) fun μ2 f2 c2 => ?_
  rw [w_tupleL c2]
  have c0 := f2.at_ _ _ (f1.at_ _ _ (get_snoc (μ := μ) (c := .lst [.tup [.int (-1), .tup [], .tup []], .tup [.int 201, .tup [], .tup []], .tup [.int L, .tup (mv.map rwU), .tup (ac.map U.bl ++ [U.bl true])], .tup [.int L, .tup (mv.map rwU ++ repU (1 : Int).toNat [U.tup []]), .tup (ac.map U.bl)]])))
  rw [w_append c0 (by simp [lim])]
  have b5 : IsBad (.tup [.int 1, .tup ((List.range 401).map fun _ => U.tup [.int 0]), .tup ((List.range 401).map fun _ => U.bl false)]) := ⟨1, (List.range 401).map fun _ => [0], (List.range 401).map fun _ => false, by simp [gU, rwU], by simp, by simp, fun h => by have := h.2.1; simp at this⟩
  have fA : Fr μ μ2 := ((Fr.refl.snoc).trans f1).trans f2
  have l0 := get_lt c0
  -- what is left, for any list of bad ones
  have fin : ∀ (μ' : Mem) (us : List U) (x : Option U), Fr μ μ' → μ'[μ.length]? = some (.lst us) → us ≠ [] → (∀ u ∈ us, IsBad u) →
      wpE (bLen [.ref μ.length] μ') (fun w μ2 => wpE (uMod (.int n) w μ2) (fun w μ2 => wpE (ixU (.ref μ.length) w μ2) Q E) E) E := by
    intro μ' us x f c hne hall
    have hl : 0 < (us.length : Int) := by
      have := List.length_pos_iff.mpr hne
      omega
    rw [w_lenL c]
    walk_at "go"
    refine ⟨by omega, ?_⟩
    rw [w_ixL c]
    obtain ⟨a1, a2⟩ := Dg.fmod_in (x := n) hl
    obtain ⟨w, d1, d2⟩ := Dg.atI_in (xs := us) a1 a2
    exact ⟨w, d1, q w μ' (hall w d2) f⟩
  generalize hbs : ([U.tup [U.int (-1), U.tup [], U.tup []], U.tup [U.int 201, U.tup [], U.tup []], U.tup [U.int ↑L, U.tup (List.map rwU mv), U.tup (List.map U.bl ac ++ [U.bl true])],
    U.tup [U.int ↑L, U.tup (List.map rwU mv ++ repU (Int.toNat 1) [U.tup []]), U.tup (List.map U.bl ac)]] ++ [U.tup [U.int 1, U.tup (List.map (fun x => U.tup [U.int 0]) (List.range 401)), U.tup (List.map (fun x => U.bl false) (List.range 401))]]) = bs
  have hb : (∀ u ∈ bs, IsBad u) ∧ bs ≠ [] ∧ bs.length = 5 := by
    subst hbs
    refine ⟨fun u hu => ?_, by simp, by simp⟩
    simp only [List.cons_append, List.nil_append, List.mem_cons, List.not_mem_nil, or_false] at hu
    rcases hu with rfl | rfl | rfl | rfl | rfl
    · exact b1
    · exact b2
    · exact b3
    · exact b4
    · exact b5
  have cB : (μ2.set μ.length (.lst bs))[μ.length]? = some (.lst bs) := get_set c0
  have fB : Fr μ (μ2.set μ.length (.lst bs)) := fA.put (Nat.le_refl _)
  generalize (μ2.set μ.length (.lst bs)) = μ3 at cB fB ⊢
  split
  · rename_i hp
    split
    · rename_i hp2
      have hmv : mv ≠ [] := by rintro rfl; simp at hp
      obtain ⟨pre, row, rfl⟩ : ∃ pre row, mv = pre ++ [row] := ⟨mv.dropLast, mv.getLast hmv, (List.dropLast_concat_getLast hmv).symm⟩
      have hrl := (ok2 row (by simp)).1
      have ix : atI (List.map rwU (pre ++ [row])) (((List.map rwU (pre ++ [row])).length : Int) - 1) = some (rwU row) := by
        rw [show (((List.map rwU (pre ++ [row])).length : Int) - 1) = ((pre.length : Nat) : Int) by simp, Dg.atI_nat]
        simp
      refine ⟨_, ix, ?_⟩
      have cut : cutU (List.map rwU (pre ++ [row])) none (some (-1)) = List.map rwU pre := by
        rw [cutU_last]
        simp
      refine ⟨_, lstU_L cB, ?_⟩
      simp only [rwU]
      have hpl : pre.length ≤ 400 := by simp at hS; omega
      have ladd : ∀ u : U, ((pre.map rwU).length + [u].length) ≤ lim := fun u => by simp [lim]; omega
      have lr0 : ∀ (u : U) (us : List U), us.length ≤ 1000 → ([u].length + us.length) ≤ lim := fun u us h => by simp [lim]; omega
      have lr1 : ∀ (u : U) (us : List U), us.length ≤ 1000 → (us.length + [u].length) ≤ lim := fun u us h => by simp [lim]; omega
      -- each of the four
      have mk : ∀ (w : List Int), w.length < 1000 → (¬ ((w.length : Int) = L) ∨ ∃ t ∈ w, ¬ (-1 ≤ t ∧ t < ((pre.length + 1 : Nat) : Int))) → IsBad (.tup [.int L, .tup (pre.map rwU ++ [.tup (w.map U.int)]), .tup (ac.map U.bl)]) := by
        intro w hw hx
        refine ⟨L, pre ++ [w], ac, by simp [gU, rwU], by simp; omega, fun r hr => ?_, fun h => ?_⟩
        · rcases List.mem_append.mp hr with h | h
          · exact hrow r (by simp [h])
          · simp at h; subst h; exact hw
        · have h1 := okM_row h (r := w) (by simp)
          rcases hx with z | ⟨t, z1, z2⟩
          · exact z h1.1
          · have := h1.2 t z1
            simp at this z2
            omega
      have app : ∀ (w : List Int) (us : List U) (μ' : Mem) (P : Mem → Prop), w.length < 1000 → (¬ ((w.length : Int) = L) ∨ ∃ t ∈ w, ¬ (-1 ≤ t ∧ t < ((pre.length + 1 : Nat) : Int))) → Fr μ μ' → μ'[μ.length]? = some (.lst us) → us.length ≤ 20 → (∀ u ∈ us, IsBad u) →
          (∀ (us' : List U) μ'', Fr μ μ'' → μ''[μ.length]? = some (.lst us') → us'.length = us.length + 1 → us' ≠ [] → (∀ u ∈ us', IsBad u) → P μ'') →
          wpE (uAdd (U.tup (cutU (List.map rwU (pre ++ [row])) none (some (-1)))) (U.tup [.tup (w.map U.int)]) μ') (fun u μ1 => wpE (gAppend (U.ref (List.length μ)) [U.tup [U.int ↑L, u, U.tup (List.map U.bl ac)]] μ1) (fun x μ1 => P μ1) fun c μ => E c μ) (fun c μ => E c μ) := by
        intro w us μ' P hw hx f c hl hall k
        rw [cut, w_addT (ladd _), w_append c (by simp [lim]; omega)]
        exact k _ _ (f.put (Nat.le_refl _)) (get_set c) (by simp) (by simp) (fun u hu => by
          rcases List.mem_append.mp hu with h | h
          · exact hall u h
          · simp at h; subst h; exact mk w hw hx)
      have hrow' := hrow row (by simp)
      have cl : cutU (row.map U.int) none (some (-1)) = (row.take (row.length - 1)).map U.int := by rw [cutU_last, List.length_map, List.map_take]
      have ct : cutU (row.map U.int) (some 1) none = (row.drop 1).map U.int := by rw [cutU_drop (by decide), List.map_drop]; rfl
      have hLp : 0 < L := by omega
      rw [w_slT, cl]
      refine app _ bs μ3 _ (by simp; omega) (.inl (by simp; omega)) fB cB (by omega) hb.1 fun us1 μ4 f4 c4 l4 n4 a4 => ?_
      refine ⟨_, lstU_L c4, ?_⟩
      rw [w_addT (lr1 _ _ (by simp; omega))]
      have e7 : List.map U.int row ++ [U.int 0] = (row ++ [0]).map U.int := by simp
      rw [e7]
      refine app _ us1 μ4 _ (by simp; omega) (.inl (by simp; omega)) f4 c4 (by omega) a4 fun us2 μ5 f5 c5 l5 n5 a5 => ?_
      refine ⟨_, lstU_L c5, ?_⟩
      rw [w_slT, ct, w_addT (lr0 _ _ (by simp; omega))]
      have e8 : [U.int ((List.map rwU (pre ++ [row])).length : Int)] ++ (row.drop 1).map U.int = (((pre.length + 1 : Nat) : Int) :: row.drop 1).map U.int := by simp
      rw [e8]
      refine app _ us2 μ5 _ (by simp; omega) (.inr ⟨((pre.length + 1 : Nat) : Int), List.mem_cons_self, by omega⟩) f5 c5 (by omega) a5 fun us3 μ6 f6 c6 l6 n6 a6 => ?_
      refine ⟨_, lstU_L c6, ?_⟩
      rw [w_slT, ct, w_addT (lr0 _ _ (by simp; omega))]
      have e9 : [U.int (-2)] ++ (row.drop 1).map U.int = (-2 :: row.drop 1).map U.int := by simp
      rw [e9]
      refine app _ us3 μ6 _ (by simp; omega) (.inr ⟨-2, List.mem_cons_self, by omega⟩) f6 c6 (by omega) a6 fun us4 μ7 f7 c7 l7 n7 a7 => ?_
      exact fin μ7 us4 none f7 c7 n7 a7
    · exact fin μ3 bs none fB cB hb.2.1 hb.1
  · exact fin μ3 bs none fB cB hb.2.1 hb.1
/-- the state behind a letter -/
def Mc.go (M : Mc) (s a : Int) : Int := (M.mv.getD s.toNat []).getD a.toNat (-1)
def Mc.end_ (M : Mc) (s : Int) : Bool := M.ac.getD s.toNat false
def Mc.acc (M : Mc) : Int → List Int → Bool
  | s, [] => decide (s ≠ -1) && M.end_ s
  | s, a :: w => decide (s ≠ -1 ∧ 0 ≤ a ∧ a < M.L) && M.acc (M.go s a) w
def Mc.fst (M : Mc) : Int := if M.mv = [] then -1 else 0
theorem Mc.go_in {M : Mc} (ok : M.ok) {s a : Int} (h0 : 0 ≤ s) (h1 : s < M.mv.length) (a0 : 0 ≤ a) (a1 : a < M.L) : ∃ r : List Int, atI (M.mv.map rwU) s = some (rwU r) ∧ atI (r.map U.int) a = some (.int (M.go s a)) ∧ -1 ≤ M.go s a ∧ M.go s a < M.mv.length := by
  obtain ⟨n, rfl⟩ := Int.eq_ofNat_of_zero_le h0
  obtain ⟨m, rfl⟩ := Int.eq_ofNat_of_zero_le a0
  have hn : n < M.mv.length := by omega
  obtain ⟨r1, r2⟩ := ok.row M.mv[n] (List.getElem_mem hn)
  have hm : m < M.mv[n].length := by omega
  have e : M.go (n : Int) (m : Int) = M.mv[n][m] := by
    unfold Mc.go
    simp [hn, hm]
  refine ⟨M.mv[n], by rw [Dg.atI_nat]; simp [hn], by rw [Dg.atI_nat, e]; simp [hm], ?_, ?_⟩
  · rw [e]; exact (r2 _ (List.getElem_mem hm)).1
  · rw [e]; exact (r2 _ (List.getElem_mem hm)).2
theorem Mc.end_at {M : Mc} (ok : M.ok) {s : Int} (h0 : 0 ≤ s) (h1 : s < M.mv.length) : atI (M.ac.map U.bl) s = some (.bl (M.end_ s)) := by
  obtain ⟨n, rfl⟩ := Int.eq_ofNat_of_zero_le h0
  have hn : n < M.ac.length := by have := ok.ac; omega
  rw [Dg.atI_nat]
  unfold Mc.end_
  simp [hn]
structure AccS (g : List U → Mem → Res U) : Prop where
  ap : ∀ {M : Mc} {ws : List Int} {r : Nat} {μ : Mem} {Q : U → Mem → Prop} {E : Str → Mem → Prop}, M.ok → μ[r]? = some (.lst (ws.map U.int)) → ws.length < 1000000 → Q (.bl (M.acc M.fst ws)) μ → wpE (g [mU M, .ref r] μ) Q E
theorem drop_cons {α : Type} {xs : List α} {i : Nat} (h : i < xs.length) : xs.drop i = xs[i] :: xs.drop (i + 1) := by simp
theorem accepts_s {C : Calls} : AccS (runDef 7 (b_accepts C)) := by
  constructor
  intro M ws r μ Q E ok hr hl q
  unfold b_accepts mU
  simp (config := {decide := true}) only [s_asg, setT, setAll, w_run, w_op, w_isi, Dg.wipeU, w_powI, w_intB, w_sl, w_oNone, w_oSome, w_slT, w_slF, w_ixF, w_lenF, w_abs, w_max2, w_min2, w_fdivI, w_neg, w_andE, w_orE, w_notE, w_chain, w_c, w_var, w_call, w_def, w_anil, w_acons, w_tup, w_lst, w_int, w_intB, w_lenT, w_addI, w_subI, w_modI, w_mulI, w_ltI, w_leI, w_gtI, w_geI, w_eq, w_ne, w_ixT, w_if, w_nt, w_an, w_or, w_all, w_tstB, w_tst, w_app, w_lc, w_for, w_iseqT, w_rg1, w_rev1, w_d0, Dg.eq_str, Dg.eq_int, s_seq, s_next, s_brk, s_cnt, s_expr, s_ret, s_retN, s_if, w_getE, w_items, w_keys, w_fmt, w_js0, w_js, s_asg1, s_store, s_tryAs, s_try, w_isX, s_raise, List.map_cons, List.map_nil, List.cons_append, List.nil_append, List.length_cons, List.length_nil, List.replicate_succ, List.replicate_zero, Nat.add_sub_cancel, Nat.sub_self, Nat.sub_zero, Nat.reduceAdd, Nat.reduceSub, Nat.zero_add, List.set_cons_succ, List.set_cons_zero, List.getElem?_cons_zero, List.getElem?_cons_succ, Option.some.injEq, exists_eq_left', exists_eq_left, exists_eq_right', U.bl.injEq, U.int.injEq, U.ref.injEq, U.str.injEq, atI_0, atI_1, atI_2, atI_3, atI_4, atI_5, if_true, if_false, true_and, and_true, decide_true, decide_false, Bool.not_true, Bool.not_false, reduceCtorEq, ite_true, ite_false, decide_eq_true_eq, Bool.true_eq_false, Bool.false_eq_true]
  refine ⟨_, tru_T, ?_⟩
  have hf : M.fst = if (!(M.mv.map rwU).isEmpty) = true then 0 else -1 := by
    unfold Mc.fst
    cases M.mv <;> simp
  have hlen : M.mv ≠ [] → 0 < M.mv.length := fun h => List.length_pos_iff.mpr h
  have hemp : (!(M.mv.map rwU).isEmpty) = true ↔ M.mv ≠ [] := by cases M.mv <;> simp
  split
  all_goals
    rename_i h
    refine ⟨_, listAt_L hr, ?_⟩
    refine for_live (ws.map U.int) (fun i s' μ' => μ' = μ ∧ ∃ (st : Int) (x : Option U), s' = [some (.tup [.int M.L, .tup (M.mv.map rwU), .tup (M.ac.map U.bl)]), some (.ref r), some (.int M.L), some (.tup (M.mv.map rwU)), some (.tup (M.ac.map U.bl)), some (.int st), x] ∧ -1 ≤ st ∧ st < M.mv.length ∧ M.acc st (ws.drop i) = M.acc M.fst ws) (by simpa using hl) ⟨rfl, _, none, rfl, by omega, by first | (have := hlen (hemp.mp h); omega) | omega, by rw [hf]; first | rw [if_pos h]; rfl | rw [if_neg h]; rfl⟩ (fun i s' μ' h => by rw [h.1]; exact hr) ?_ ?_
    · rintro i s' μ' hi ⟨rfl, st, x, rfl, h0, h1, e⟩
      simp only [List.length_map] at hi
      refine ⟨_, rfl, ?_⟩
      simp only [List.getElem_map]
      rw [drop_cons hi] at e
      walk_at "go"
      by_cases hs : st = -1
      · simp (config := {decide := true}) only [hs, w_run, w_op, w_isi, Dg.wipeU, w_powI, w_intB, w_sl, w_oNone, w_oSome, w_slT, w_slF, w_ixF, w_lenF, w_abs, w_max2, w_min2, w_fdivI, w_neg, w_andE, w_orE, w_notE, w_chain, w_c, w_var, w_call, w_def, w_anil, w_acons, w_tup, w_lst, w_int, w_intB, w_lenT, w_addI, w_subI, w_modI, w_mulI, w_ltI, w_leI, w_gtI, w_geI, w_eq, w_ne, w_ixT, w_if, w_nt, w_an, w_or, w_all, w_tstB, w_tst, w_app, w_lc, w_for, w_iseqT, w_rg1, w_rev1, w_d0, Dg.eq_str, Dg.eq_int, s_seq, s_next, s_brk, s_cnt, s_expr, s_ret, s_retN, s_if, w_getE, w_items, w_keys, w_fmt, w_js0, w_js, s_asg1, s_store, s_tryAs, s_try, w_isX, s_raise, List.map_cons, List.map_nil, List.cons_append, List.nil_append, List.length_cons, List.length_nil, List.replicate_succ, List.replicate_zero, Nat.add_sub_cancel, Nat.sub_self, Nat.sub_zero, Nat.reduceAdd, Nat.reduceSub, Nat.zero_add, List.set_cons_succ, List.set_cons_zero, List.getElem?_cons_zero, List.getElem?_cons_succ, Option.some.injEq, exists_eq_left', exists_eq_left, exists_eq_right', U.bl.injEq, U.int.injEq, U.ref.injEq, U.str.injEq, atI_0, atI_1, atI_2, atI_3, atI_4, atI_5, if_true, if_false, true_and, and_true, decide_true, decide_false, Bool.not_true, Bool.not_false, reduceCtorEq, ite_true, ite_false, decide_eq_true_eq, Bool.true_eq_false, Bool.false_eq_true]
        have : M.acc M.fst ws = false := by rw [← e, hs]; simp [Mc.acc]
        rw [this] at q
        exact q
      · have hs' : 0 ≤ st := by omega
        simp (config := {decide := true}) only [hs, w_run, w_op, w_isi, Dg.wipeU, w_powI, w_intB, w_sl, w_oNone, w_oSome, w_slT, w_slF, w_ixF, w_lenF, w_abs, w_max2, w_min2, w_fdivI, w_neg, w_andE, w_orE, w_notE, w_chain, w_c, w_var, w_call, w_def, w_anil, w_acons, w_tup, w_lst, w_int, w_intB, w_lenT, w_addI, w_subI, w_modI, w_mulI, w_ltI, w_leI, w_gtI, w_geI, w_eq, w_ne, w_ixT, w_if, w_nt, w_an, w_or, w_all, w_tstB, w_tst, w_app, w_lc, w_for, w_iseqT, w_rg1, w_rev1, w_d0, Dg.eq_str, Dg.eq_int, s_seq, s_next, s_brk, s_cnt, s_expr, s_ret, s_retN, s_if, w_getE, w_items, w_keys, w_fmt, w_js0, w_js, s_asg1, s_store, s_tryAs, s_try, w_isX, s_raise, List.map_cons, List.map_nil, List.cons_append, List.nil_append, List.length_cons, List.length_nil, List.replicate_succ, List.replicate_zero, Nat.add_sub_cancel, Nat.sub_self, Nat.sub_zero, Nat.reduceAdd, Nat.reduceSub, Nat.zero_add, List.set_cons_succ, List.set_cons_zero, List.getElem?_cons_zero, List.getElem?_cons_succ, Option.some.injEq, exists_eq_left', exists_eq_left, exists_eq_right', U.bl.injEq, U.int.injEq, U.ref.injEq, U.str.injEq, atI_0, atI_1, atI_2, atI_3, atI_4, atI_5, if_true, if_false, true_and, and_true, decide_true, decide_false, Bool.not_true, Bool.not_false, reduceCtorEq, ite_true, ite_false, decide_eq_true_eq, Bool.true_eq_false, Bool.false_eq_true]
        by_cases ha : 0 ≤ ws[i] ∧ ws[i] < M.L
        · obtain ⟨rw_, p1, p2, p3, p4⟩ := Mc.go_in ok hs' h1 ha.1 ha.2
          simp (config := {decide := true}) only [ha.1, ha.2, w_run, w_op, w_isi, Dg.wipeU, w_powI, w_intB, w_sl, w_oNone, w_oSome, w_slT, w_slF, w_ixF, w_lenF, w_abs, w_max2, w_min2, w_fdivI, w_neg, w_andE, w_orE, w_notE, w_chain, w_c, w_var, w_call, w_def, w_anil, w_acons, w_tup, w_lst, w_int, w_intB, w_lenT, w_addI, w_subI, w_modI, w_mulI, w_ltI, w_leI, w_gtI, w_geI, w_eq, w_ne, w_ixT, w_if, w_nt, w_an, w_or, w_all, w_tstB, w_tst, w_app, w_lc, w_for, w_iseqT, w_rg1, w_rev1, w_d0, Dg.eq_str, Dg.eq_int, s_seq, s_next, s_brk, s_cnt, s_expr, s_ret, s_retN, s_if, w_getE, w_items, w_keys, w_fmt, w_js0, w_js, s_asg1, s_store, s_tryAs, s_try, w_isX, s_raise, List.map_cons, List.map_nil, List.cons_append, List.nil_append, List.length_cons, List.length_nil, List.replicate_succ, List.replicate_zero, Nat.add_sub_cancel, Nat.sub_self, Nat.sub_zero, Nat.reduceAdd, Nat.reduceSub, Nat.zero_add, List.set_cons_succ, List.set_cons_zero, List.getElem?_cons_zero, List.getElem?_cons_succ, Option.some.injEq, exists_eq_left', exists_eq_left, exists_eq_right', U.bl.injEq, U.int.injEq, U.ref.injEq, U.str.injEq, atI_0, atI_1, atI_2, atI_3, atI_4, atI_5, if_true, if_false, true_and, and_true, decide_true, decide_false, Bool.not_true, Bool.not_false, reduceCtorEq, ite_true, ite_false, decide_eq_true_eq, Bool.true_eq_false, Bool.false_eq_true]
          refine ⟨_, p1, ?_⟩
          simp only [rwU]
          walk_at "go"
          refine ⟨_, p2, _, _, rfl, p3, p4, ?_⟩
          rw [← e]
          simp [Mc.acc, hs, ha]
        · have e' : M.acc M.fst ws = false := by rw [← e]; simp [Mc.acc, hs]; intro a b; exact absurd ⟨a, b⟩ ha
          rw [e'] at q
          by_cases a1 : 0 ≤ ws[i]
          · have a2 : ¬ ws[i] < M.L := fun z => ha ⟨a1, z⟩
            simp (config := {decide := true}) only [a1, a2, w_run, w_op, w_isi, Dg.wipeU, w_powI, w_intB, w_sl, w_oNone, w_oSome, w_slT, w_slF, w_ixF, w_lenF, w_abs, w_max2, w_min2, w_fdivI, w_neg, w_andE, w_orE, w_notE, w_chain, w_c, w_var, w_call, w_def, w_anil, w_acons, w_tup, w_lst, w_int, w_intB, w_lenT, w_addI, w_subI, w_modI, w_mulI, w_ltI, w_leI, w_gtI, w_geI, w_eq, w_ne, w_ixT, w_if, w_nt, w_an, w_or, w_all, w_tstB, w_tst, w_app, w_lc, w_for, w_iseqT, w_rg1, w_rev1, w_d0, Dg.eq_str, Dg.eq_int, s_seq, s_next, s_brk, s_cnt, s_expr, s_ret, s_retN, s_if, w_getE, w_items, w_keys, w_fmt, w_js0, w_js, s_asg1, s_store, s_tryAs, s_try, w_isX, s_raise, List.map_cons, List.map_nil, List.cons_append, List.nil_append, List.length_cons, List.length_nil, List.replicate_succ, List.replicate_zero, Nat.add_sub_cancel, Nat.sub_self, Nat.sub_zero, Nat.reduceAdd, Nat.reduceSub, Nat.zero_add, List.set_cons_succ, List.set_cons_zero, List.getElem?_cons_zero, List.getElem?_cons_succ, Option.some.injEq, exists_eq_left', exists_eq_left, exists_eq_right', U.bl.injEq, U.int.injEq, U.ref.injEq, U.str.injEq, atI_0, atI_1, atI_2, atI_3, atI_4, atI_5, if_true, if_false, true_and, and_true, decide_true, decide_false, Bool.not_true, Bool.not_false, reduceCtorEq, ite_true, ite_false, decide_eq_true_eq, Bool.true_eq_false, Bool.false_eq_true]
            exact q
          · simp (config := {decide := true}) only [a1, w_run, w_op, w_isi, Dg.wipeU, w_powI, w_intB, w_sl, w_oNone, w_oSome, w_slT, w_slF, w_ixF, w_lenF, w_abs, w_max2, w_min2, w_fdivI, w_neg, w_andE, w_orE, w_notE, w_chain, w_c, w_var, w_call, w_def, w_anil, w_acons, w_tup, w_lst, w_int, w_intB, w_lenT, w_addI, w_subI, w_modI, w_mulI, w_ltI, w_leI, w_gtI, w_geI, w_eq, w_ne, w_ixT, w_if, w_nt, w_an, w_or, w_all, w_tstB, w_tst, w_app, w_lc, w_for, w_iseqT, w_rg1, w_rev1, w_d0, Dg.eq_str, Dg.eq_int, s_seq, s_next, s_brk, s_cnt, s_expr, s_ret, s_retN, s_if, w_getE, w_items, w_keys, w_fmt, w_js0, w_js, s_asg1, s_store, s_tryAs, s_try, w_isX, s_raise, List.map_cons, List.map_nil, List.cons_append, List.nil_append, List.length_cons, List.length_nil, List.replicate_succ, List.replicate_zero, Nat.add_sub_cancel, Nat.sub_self, Nat.sub_zero, Nat.reduceAdd, Nat.reduceSub, Nat.zero_add, List.set_cons_succ, List.set_cons_zero, List.getElem?_cons_zero, List.getElem?_cons_succ, Option.some.injEq, exists_eq_left', exists_eq_left, exists_eq_right', U.bl.injEq, U.int.injEq, U.ref.injEq, U.str.injEq, atI_0, atI_1, atI_2, atI_3, atI_4, atI_5, if_true, if_false, true_and, and_true, decide_true, decide_false, Bool.not_true, Bool.not_false, reduceCtorEq, ite_true, ite_false, decide_eq_true_eq, Bool.true_eq_false, Bool.false_eq_true]
            exact q
    · rintro s' μ' ⟨rfl, st, x, rfl, h0, h1, e⟩
      rw [show (ws.map U.int).length = ws.length by simp, List.drop_length] at e
      walk_at "go"
      by_cases hs : st = -1
      · simp (config := {decide := true}) only [hs, w_run, w_op, w_isi, Dg.wipeU, w_powI, w_intB, w_sl, w_oNone, w_oSome, w_slT, w_slF, w_ixF, w_lenF, w_abs, w_max2, w_min2, w_fdivI, w_neg, w_andE, w_orE, w_notE, w_chain, w_c, w_var, w_call, w_def, w_anil, w_acons, w_tup, w_lst, w_int, w_intB, w_lenT, w_addI, w_subI, w_modI, w_mulI, w_ltI, w_leI, w_gtI, w_geI, w_eq, w_ne, w_ixT, w_if, w_nt, w_an, w_or, w_all, w_tstB, w_tst, w_app, w_lc, w_for, w_iseqT, w_rg1, w_rev1, w_d0, Dg.eq_str, Dg.eq_int, s_seq, s_next, s_brk, s_cnt, s_expr, s_ret, s_retN, s_if, w_getE, w_items, w_keys, w_fmt, w_js0, w_js, s_asg1, s_store, s_tryAs, s_try, w_isX, s_raise, List.map_cons, List.map_nil, List.cons_append, List.nil_append, List.length_cons, List.length_nil, List.replicate_succ, List.replicate_zero, Nat.add_sub_cancel, Nat.sub_self, Nat.sub_zero, Nat.reduceAdd, Nat.reduceSub, Nat.zero_add, List.set_cons_succ, List.set_cons_zero, List.getElem?_cons_zero, List.getElem?_cons_succ, Option.some.injEq, exists_eq_left', exists_eq_left, exists_eq_right', U.bl.injEq, U.int.injEq, U.ref.injEq, U.str.injEq, atI_0, atI_1, atI_2, atI_3, atI_4, atI_5, if_true, if_false, true_and, and_true, decide_true, decide_false, Bool.not_true, Bool.not_false, reduceCtorEq, ite_true, ite_false, decide_eq_true_eq, Bool.true_eq_false, Bool.false_eq_true]
        have : M.acc M.fst ws = false := by rw [← e, hs]; simp [Mc.acc]
        rw [this] at q
        exact q
      · simp (config := {decide := true}) only [hs, w_run, w_op, w_isi, Dg.wipeU, w_powI, w_intB, w_sl, w_oNone, w_oSome, w_slT, w_slF, w_ixF, w_lenF, w_abs, w_max2, w_min2, w_fdivI, w_neg, w_andE, w_orE, w_notE, w_chain, w_c, w_var, w_call, w_def, w_anil, w_acons, w_tup, w_lst, w_int, w_intB, w_lenT, w_addI, w_subI, w_modI, w_mulI, w_ltI, w_leI, w_gtI, w_geI, w_eq, w_ne, w_ixT, w_if, w_nt, w_an, w_or, w_all, w_tstB, w_tst, w_app, w_lc, w_for, w_iseqT, w_rg1, w_rev1, w_d0, Dg.eq_str, Dg.eq_int, s_seq, s_next, s_brk, s_cnt, s_expr, s_ret, s_retN, s_if, w_getE, w_items, w_keys, w_fmt, w_js0, w_js, s_asg1, s_store, s_tryAs, s_try, w_isX, s_raise, List.map_cons, List.map_nil, List.cons_append, List.nil_append, List.length_cons, List.length_nil, List.replicate_succ, List.replicate_zero, Nat.add_sub_cancel, Nat.sub_self, Nat.sub_zero, Nat.reduceAdd, Nat.reduceSub, Nat.zero_add, List.set_cons_succ, List.set_cons_zero, List.getElem?_cons_zero, List.getElem?_cons_succ, Option.some.injEq, exists_eq_left', exists_eq_left, exists_eq_right', U.bl.injEq, U.int.injEq, U.ref.injEq, U.str.injEq, atI_0, atI_1, atI_2, atI_3, atI_4, atI_5, if_true, if_false, true_and, and_true, decide_true, decide_false, Bool.not_true, Bool.not_false, reduceCtorEq, ite_true, ite_false, decide_eq_true_eq, Bool.true_eq_false, Bool.false_eq_true]
        refine ⟨_, Mc.end_at ok (by omega) h1, ?_⟩
        have : M.acc M.fst ws = M.end_ st := by rw [← e]; simp [Mc.acc, hs]
        rw [this] at q
        exact q
theorem law_accepts_s {C : Calls} : AccS (runDef 4 (b__law_accepts C)) := by
  constructor
  intro M ws r μ Q E ok hr hl q
  unfold b__law_accepts mU
  walk_at "go"
  split
  · rename_i h
    have e : M.mv = [] := by simpa using h
    have : M.acc M.fst ws = false := by
      have : M.fst = -1 := by simp [Mc.fst, e]
      rw [this]
      cases ws <;> simp [Mc.acc]
    rw [this] at q
    exact q
  · rename_i h
    have e : M.mv ≠ [] := by simpa using h
    have e0 : M.fst = 0 := by simp [Mc.fst, e]
    have hp := List.length_pos_iff.mpr e
    refine ⟨_, listAt_L hr, ?_⟩
    refine for_live (ws.map U.int) (fun i s' μ' => μ' = μ ∧ ∃ (st : Int) (x : Option U), s' = [some (.tup [.int M.L, .tup (M.mv.map rwU), .tup (M.ac.map U.bl)]), some (.ref r), some (.int st), x] ∧ 0 ≤ st ∧ st < M.mv.length ∧ M.acc st (ws.drop i) = M.acc M.fst ws) (by simpa using hl) ⟨rfl, 0, none, rfl, by omega, by omega, by rw [e0]; rfl⟩ (fun i s' μ' h => by rw [h.1]; exact hr) ?_ ?_
    · rintro i s' μ' hi ⟨rfl, st, x, rfl, h0, h1, e⟩
      simp only [List.length_map] at hi
      refine ⟨_, rfl, ?_⟩
      simp only [List.getElem_map]
      rw [drop_cons hi] at e
      have hs : st ≠ -1 := by omega
      walk_at "go"
      by_cases ha : 0 ≤ ws[i] ∧ ws[i] < M.L
      · obtain ⟨rw_, p1, p2, p3, p4⟩ := Mc.go_in ok h0 h1 ha.1 ha.2
        have a1 : ¬ ws[i] < 0 := by omega
        have a2 : ¬ (M.L : Int) ≤ ws[i] := by omega
        simp (config := {decide := true}) only [a1, a2, w_run, w_op, w_isi, Dg.wipeU, w_powI, w_intB, w_sl, w_oNone, w_oSome, w_slT, w_slF, w_ixF, w_lenF, w_abs, w_max2, w_min2, w_fdivI, w_neg, w_andE, w_orE, w_notE, w_chain, w_c, w_var, w_call, w_def, w_anil, w_acons, w_tup, w_lst, w_int, w_intB, w_lenT, w_addI, w_subI, w_modI, w_mulI, w_ltI, w_leI, w_gtI, w_geI, w_eq, w_ne, w_ixT, w_if, w_nt, w_an, w_or, w_all, w_tstB, w_tst, w_app, w_lc, w_for, w_iseqT, w_rg1, w_rev1, w_d0, Dg.eq_str, Dg.eq_int, s_seq, s_next, s_brk, s_cnt, s_expr, s_ret, s_retN, s_if, w_getE, w_items, w_keys, w_fmt, w_js0, w_js, s_asg1, s_store, s_tryAs, s_try, w_isX, s_raise, List.map_cons, List.map_nil, List.cons_append, List.nil_append, List.length_cons, List.length_nil, List.replicate_succ, List.replicate_zero, Nat.add_sub_cancel, Nat.sub_self, Nat.sub_zero, Nat.reduceAdd, Nat.reduceSub, Nat.zero_add, List.set_cons_succ, List.set_cons_zero, List.getElem?_cons_zero, List.getElem?_cons_succ, Option.some.injEq, exists_eq_left', exists_eq_left, exists_eq_right', U.bl.injEq, U.int.injEq, U.ref.injEq, U.str.injEq, atI_0, atI_1, atI_2, atI_3, atI_4, atI_5, if_true, if_false, true_and, and_true, decide_true, decide_false, Bool.not_true, Bool.not_false, reduceCtorEq, ite_true, ite_false, decide_eq_true_eq, Bool.true_eq_false, Bool.false_eq_true]
        refine ⟨_, p1, ?_⟩
        simp only [rwU]
        walk_at "go"
        refine ⟨_, p2, ?_⟩
        have e2 : M.acc M.fst ws = M.acc (M.go st ws[i]) (ws.drop (i + 1)) := by rw [← e]; simp [Mc.acc, hs, ha]
        walk_at "go"
        split
        · rename_i hneg
          have : M.go st ws[i] = -1 := by omega
          have : M.acc M.fst ws = false := by
            rw [e2, this]
            cases ws.drop (i + 1) <;> simp [Mc.acc]
          rw [this] at q
          exact q
        · exact ⟨_, _, rfl, by omega, p4, e2.symm⟩
      · have e' : M.acc M.fst ws = false := by rw [← e]; simp [Mc.acc, hs]; intro a b; exact absurd ⟨a, b⟩ ha
        rw [e'] at q
        by_cases a1 : ws[i] < 0
        · simp (config := {decide := true}) only [a1, w_run, w_op, w_isi, Dg.wipeU, w_powI, w_intB, w_sl, w_oNone, w_oSome, w_slT, w_slF, w_ixF, w_lenF, w_abs, w_max2, w_min2, w_fdivI, w_neg, w_andE, w_orE, w_notE, w_chain, w_c, w_var, w_call, w_def, w_anil, w_acons, w_tup, w_lst, w_int, w_intB, w_lenT, w_addI, w_subI, w_modI, w_mulI, w_ltI, w_leI, w_gtI, w_geI, w_eq, w_ne, w_ixT, w_if, w_nt, w_an, w_or, w_all, w_tstB, w_tst, w_app, w_lc, w_for, w_iseqT, w_rg1, w_rev1, w_d0, Dg.eq_str, Dg.eq_int, s_seq, s_next, s_brk, s_cnt, s_expr, s_ret, s_retN, s_if, w_getE, w_items, w_keys, w_fmt, w_js0, w_js, s_asg1, s_store, s_tryAs, s_try, w_isX, s_raise, List.map_cons, List.map_nil, List.cons_append, List.nil_append, List.length_cons, List.length_nil, List.replicate_succ, List.replicate_zero, Nat.add_sub_cancel, Nat.sub_self, Nat.sub_zero, Nat.reduceAdd, Nat.reduceSub, Nat.zero_add, List.set_cons_succ, List.set_cons_zero, List.getElem?_cons_zero, List.getElem?_cons_succ, Option.some.injEq, exists_eq_left', exists_eq_left, exists_eq_right', U.bl.injEq, U.int.injEq, U.ref.injEq, U.str.injEq, atI_0, atI_1, atI_2, atI_3, atI_4, atI_5, if_true, if_false, true_and, and_true, decide_true, decide_false, Bool.not_true, Bool.not_false, reduceCtorEq, ite_true, ite_false, decide_eq_true_eq, Bool.true_eq_false, Bool.false_eq_true]
          exact q
        · have a2 : (M.L : Int) ≤ ws[i] := by
            by_cases z : ws[i] < M.L
            · exact absurd ⟨by omega, z⟩ ha
            · omega
          simp (config := {decide := true}) only [a1, a2, w_run, w_op, w_isi, Dg.wipeU, w_powI, w_intB, w_sl, w_oNone, w_oSome, w_slT, w_slF, w_ixF, w_lenF, w_abs, w_max2, w_min2, w_fdivI, w_neg, w_andE, w_orE, w_notE, w_chain, w_c, w_var, w_call, w_def, w_anil, w_acons, w_tup, w_lst, w_int, w_intB, w_lenT, w_addI, w_subI, w_modI, w_mulI, w_ltI, w_leI, w_gtI, w_geI, w_eq, w_ne, w_ixT, w_if, w_nt, w_an, w_or, w_all, w_tstB, w_tst, w_app, w_lc, w_for, w_iseqT, w_rg1, w_rev1, w_d0, Dg.eq_str, Dg.eq_int, s_seq, s_next, s_brk, s_cnt, s_expr, s_ret, s_retN, s_if, w_getE, w_items, w_keys, w_fmt, w_js0, w_js, s_asg1, s_store, s_tryAs, s_try, w_isX, s_raise, List.map_cons, List.map_nil, List.cons_append, List.nil_append, List.length_cons, List.length_nil, List.replicate_succ, List.replicate_zero, Nat.add_sub_cancel, Nat.sub_self, Nat.sub_zero, Nat.reduceAdd, Nat.reduceSub, Nat.zero_add, List.set_cons_succ, List.set_cons_zero, List.getElem?_cons_zero, List.getElem?_cons_succ, Option.some.injEq, exists_eq_left', exists_eq_left, exists_eq_right', U.bl.injEq, U.int.injEq, U.ref.injEq, U.str.injEq, atI_0, atI_1, atI_2, atI_3, atI_4, atI_5, if_true, if_false, true_and, and_true, decide_true, decide_false, Bool.not_true, Bool.not_false, reduceCtorEq, ite_true, ite_false, decide_eq_true_eq, Bool.true_eq_false, Bool.false_eq_true]
          exact q
    · rintro s' μ' ⟨rfl, st, x, rfl, h0, h1, e⟩
      rw [show (ws.map U.int).length = ws.length by simp, List.drop_length] at e
      have hs : st ≠ -1 := by omega
      walk_at "go"
      refine ⟨_, Mc.end_at ok h0 h1, ?_⟩
      have : M.acc M.fst ws = M.end_ st := by rw [← e]; simp [Mc.acc, hs]
      rw [this] at q
      exact q
/-! ### dicts of numbers -/
def kusOf (al : List (Int × Int)) : List (Key × U) := al.map fun p => (.inl p.1, .int p.2)
def getA (al : List (Int × Int)) (k : Int) : Option Int := (al.find? fun p => decide (p.1 = k)).map (·.2)
def putA (al : List (Int × Int)) (k v : Int) : List (Int × Int) := if al.any (fun p => decide (p.1 = k)) = true then al.map (fun p => if p.1 = k then (p.1, v) else p) else al ++ [(k, v)]
theorem valU_kus {k : Int} : ∀ {al : List (Int × Int)}, valU (kusOf al) (.inl k) = (getA al k).map U.int
  | [] => rfl
  | (a, b) :: al => by
    have ih := valU_kus (k := k) (al := al)
    unfold valU kusOf getA at *
    by_cases h : a = k
    · simp [h]
    · have h' : ¬ (Sum.inl a : Key) = Sum.inl k := fun e => h (by injection e)
      simp only [List.map_cons, List.find?_cons, h, h', decide_false] at ih ⊢
      exact ih
theorem putU_kus {al : List (Int × Int)} {k v : Int} : putU (kusOf al) (.inl k) (.int v) = kusOf (putA al k v) := by
  unfold putU putA
  have e : (kusOf al).any (fun kv => decide (kv.1 = (Sum.inl k : Key))) = al.any (fun p => decide (p.1 = k)) := by
    unfold kusOf
    rw [List.any_map]
    congr 1
    funext p
    simp
  rw [e]
  split
  · unfold kusOf
    rw [List.map_map, List.map_map]
    refine List.map_congr_left fun p _ => ?_
    by_cases h : p.1 = k
    · simp [h]
    · have h' : ¬ (Sum.inl p.1 : Key) = Sum.inl k := fun e => h (by injection e)
      simp [h]
  · unfold kusOf; simp
def NdA (al : List (Int × Int)) : Prop := (al.map (·.1)).Nodup
def wt (al : List (Int × Int)) (g : Int → Int) : Int := (al.map fun p => p.2 * g p.1).sum
theorem getA_mem {al : List (Int × Int)} {k : Int} : getA al k = none ↔ k ∉ al.map (·.1) := by
  unfold getA
  rw [Option.map_eq_none_iff, List.find?_eq_none]
  simp only [List.mem_map, decide_eq_true_eq, not_exists, not_and]
theorem wt_put {k c : Int} {g : Int → Int} : ∀ {al : List (Int × Int)}, NdA al → wt (putA al k ((getA al k).getD 0 + c)) g = wt al g + c * g k
  | [], _ => by simp [putA, getA, wt]
  | (a, b) :: al, h => by
    have h2 : a ∉ al.map (·.1) ∧ NdA al := by simpa [NdA] using h
    by_cases e : a = k
    · subst e
      have hm : al.map (fun p => if p.1 = a then (p.1, b + c) else p) = al := by
        refine (List.map_congr_left fun p hp => ?_).trans (List.map_id _)
        have : p.1 ≠ a := fun z => h2.1 (z ▸ List.mem_map_of_mem hp)
        simp [this]
      simp only [putA, getA, wt, List.any_cons, List.find?_cons, decide_true, Bool.true_or, if_true, List.map_cons, Option.map_some, Option.getD_some, hm, List.sum_cons]
      rw [Int.add_mul]
      omega
    · have ih := wt_put (k := k) (c := c) (g := g) h2.2
      have eg : getA ((a, b) :: al) k = getA al k := by simp [getA, e]
      have ep : ∀ v, putA ((a, b) :: al) k v = (a, b) :: putA al k v := by
        intro v
        unfold putA
        simp only [List.any_cons, e, decide_false, Bool.false_or, List.map_cons, if_false]
        split <;> rfl
      rw [eg, ep]
      simp only [wt, List.map_cons, List.sum_cons] at ih ⊢
      rw [ih]
      omega
theorem nd_put {k v : Int} {al : List (Int × Int)} (h : NdA al) : NdA (putA al k v) := by
  unfold putA NdA at *
  split
  · rw [List.map_map]
    have : ((fun x : Int × Int => x.1) ∘ fun p : Int × Int => if p.1 = k then (p.1, v) else p) = fun p => p.1 := by
      funext p
      simp only [Function.comp]
      split <;> rfl
    rw [this]
    exact h
  · rename_i hn
    rw [List.map_append, List.nodup_append]
    refine ⟨h, by simp, fun a ha b hb => ?_⟩
    simp at hb
    subst hb
    rintro rfl
    obtain ⟨p, hp, rfl⟩ := List.mem_map.mp ha
    exact hn (List.any_eq_true.mpr ⟨p, hp, by simp⟩)
theorem put_len {k v : Int} {al : List (Int × Int)} : (putA al k v).length ≤ al.length + 1 := by
  unfold putA
  split <;> simp
theorem put_keys {k v : Int} {al : List (Int × Int)} {P : Int → Prop} (h : ∀ p ∈ al, P p.1) (hk : P k) : ∀ p ∈ putA al k v, P p.1 := by
  unfold putA
  split
  · intro p hp
    obtain ⟨q, hq, rfl⟩ := List.mem_map.mp hp
    split
    · exact h q hq
    · exact h q hq
  · intro p hp
    rcases List.mem_append.mp hp with z | z
    · exact h p z
    · simp at z; subst z; exact hk
theorem nodup_lt : ∀ (n : Nat) {l : List Nat}, l.Nodup → (∀ x ∈ l, x < n) → l.length ≤ n
  | 0, l, _, h => by
    cases l with
    | nil => simp
    | cons a l => exact absurd (h a (by simp)) (by omega)
  | n + 1, l, hn, h => by
    have e : l.length = (l.filter fun x => decide (x < n)).length + (l.filter fun x => !decide (x < n)).length := by
      clear hn h
      induction l with
      | nil => rfl
      | cons a l ih =>
        by_cases z : a < n
        · simp [z, ih]; omega
        · simp [z, ih]; omega
    have h1 := nodup_lt n (l := l.filter fun x => decide (x < n)) (hn.filter _) (fun x hx => by simpa using (List.mem_filter.mp hx).2)
    have h2 : (l.filter fun x => !decide (x < n)).length ≤ 1 := by
      have nd := hn.filter (fun x => !decide (x < n))
      have all : ∀ x ∈ l.filter (fun x => !decide (x < n)), x = n := fun x hx => by
        obtain ⟨a, b⟩ := List.mem_filter.mp hx
        have := h x a
        simp at b
        omega
      generalize l.filter (fun x => !decide (x < n)) = m at nd all
      match m, nd, all with
      | [], _, _ => simp
      | [_], _, _ => simp
      | a :: b :: _, nd, all =>
        have ha := all a (by simp)
        have hb := all b (by simp)
        subst ha
        subst hb
        simp at nd
    omega
/-- as many keys as there are numbers -/
theorem nd_len {al : List (Int × Int)} (h : NdA al) {n : Nat} (hk : ∀ p ∈ al, 0 ≤ p.1 ∧ p.1 < n) : al.length ≤ n := by
  have h1 : ((al.map (·.1)).map Int.toNat).Nodup := by
    rw [List.nodup_iff_pairwise_ne, List.pairwise_map]
    refine List.Pairwise.imp_of_mem ?_ h
    intro a b ha hb hab e
    obtain ⟨p, hp, rfl⟩ := List.mem_map.mp ha
    obtain ⟨q, hq, rfl⟩ := List.mem_map.mp hb
    have := hk p hp
    have := hk q hq
    omega
  have h2 : ∀ x ∈ (al.map (·.1)).map Int.toNat, x < n := by
    intro x hx
    obtain ⟨y, hy, rfl⟩ := List.mem_map.mp hx
    obtain ⟨p, hp, rfl⟩ := List.mem_map.mp hy
    have := hk p hp
    omega
  have := nodup_lt n h1 h2
  simpa using this
def KIn (S : Nat) (al : List (Int × Int)) : Prop := ∀ p ∈ al, 0 ≤ p.1 ∧ p.1 < S
/-- where a row leads, by a weight -/
def rsum (r : List Int) (g : Int → Int) : Int := (r.map fun t => if t = -1 then 0 else g t).sum
theorem getD_int {al : List (Int × Int)} {k : Int} : ((getA al k).map U.int).getD (.int 0) = .int ((getA al k).getD 0) := by cases getA al k <;> rfl
theorem kus_len {al : List (Int × Int)} : (kusOf al).length = al.length := by simp [kusOf]
theorem ksOk_kus {al : List (Int × Int)} : ksOk (kusOf al) = true := by
  unfold ksOk kusOf
  rw [List.all_map, List.all_eq_true]
  intro p _
  rfl
theorem items_kus {al : List (Int × Int)} : itemsU (kusOf al) = al.map fun p => .tup [.int p.1, .int p.2] := by
  unfold itemsU kusOf
  rw [List.map_map]
  rfl
def Few (B : Nat) (al : List (Int × Int)) : Prop := NdA al ∧ al.length ≤ B
/-- one more at a place -/
theorem bump {S : Nat} {μ : Mem} {rf : Nat} {al : List (Int × Int)} {k c : Int} (hc : μ[rf]? = some (.dct (kusOf al))) (nd : NdA al) (kin : KIn S al) (hk : 0 ≤ k ∧ k < S) (hS : S ≤ 400) :
    stU (.ref rf) (.int k) (.int ((getA al k).getD 0 + c)) μ = some (μ.set rf (.dct (kusOf (putA al k ((getA al k).getD 0 + c))))) ∧ NdA (putA al k ((getA al k).getD 0 + c)) ∧ KIn S (putA al k ((getA al k).getD 0 + c)) := by
  refine ⟨?_, nd_put nd, put_keys (P := fun x => 0 ≤ x ∧ x < S) kin hk⟩
  have := nd_len nd kin
  rw [stU_DI hc (by rw [kus_len]; simp [lim]; omega), putU_kus]
structure WaysS (S : Nat) (g : List U → Mem → Res U) : Prop where
  ap : ∀ {row : List Int} {μ : Mem} {Q : U → Mem → Prop} {E : Str → Mem → Prop}, row.length ≤ 200 → (∀ t ∈ row, -1 ≤ t ∧ t < S) →
    (∀ (al : List (Int × Int)) μ', NdA al → KIn S al → (∀ p ∈ al, 0 ≤ p.2 ∧ p.2 ≤ 200) → (∀ g, wt al g = rsum row g) → Fr μ μ' → μ'[μ.length]? = some (.dct (kusOf al)) → Q (.ref μ.length) μ') → wpE (g [rwU row] μ) Q E
theorem put_vals {al : List (Int × Int)} {k v B : Int} (h : ∀ p ∈ al, 0 ≤ p.2 ∧ p.2 ≤ B) (hv : 0 ≤ v ∧ v ≤ B) : ∀ p ∈ putA al k v, 0 ≤ p.2 ∧ p.2 ≤ B := by
  unfold putA
  split
  · intro p hp
    obtain ⟨q, hq, rfl⟩ := List.mem_map.mp hp
    split
    · exact hv
    · exact h q hq
  · intro p hp
    rcases List.mem_append.mp hp with z | z
    · exact h p z
    · simp at z; subst z; exact hv
theorem getA_val {al : List (Int × Int)} {k B : Int} (h : ∀ p ∈ al, 0 ≤ p.2 ∧ p.2 ≤ B) (hB : 0 ≤ B) : 0 ≤ (getA al k).getD 0 ∧ (getA al k).getD 0 ≤ B := by
  unfold getA
  cases e : al.find? (fun p => decide (p.1 = k)) with
  | none => simp [hB]
  | some p => simpa using h p (List.mem_of_find?_eq_some e)
theorem ways_s {C : Calls} {S : Nat} (hS : S ≤ 400) : WaysS S (runDef 3 (b_ways_of C)) := by
  constructor
  intro row μ Q E hl hrow q
  unfold b_ways_of rwU
  walk_at "go"
  refine for_seq (fun i s' μ' => (∃ x, s' = [some (.tup (row.map U.int)), some (.ref μ.length), x]) ∧ Fr μ μ' ∧ ∃ al : List (Int × Int), μ'[μ.length]? = some (.dct (kusOf al)) ∧ NdA al ∧ KIn S al ∧ (∀ p ∈ al, 0 ≤ p.2 ∧ p.2 ≤ i) ∧ ∀ g, wt al g = rsum (row.take i) g) (by simpa using (by omega : row.length < 1000000))
    ⟨⟨_, rfl⟩, Fr.refl.snoc, [], get_snoc, by simp [NdA], by simp [KIn], by simp, by simp [wt, rsum]⟩ ?_ ?_
  · rintro i s' μ1 hi ⟨⟨x, rfl⟩, f1, al, c1, nd, kin, vals, hw⟩
    simp only [List.length_map] at hi
    refine ⟨_, rfl, ?_⟩
    simp only [List.getElem_map]
    obtain ⟨t0, t1⟩ := hrow _ (List.getElem_mem hi)
    have vals' : ∀ p ∈ al, 0 ≤ p.2 ∧ p.2 ≤ ((i + 1 : Nat) : Int) := fun p hp => by have := vals p hp; omega
    have hr : ∀ g, rsum (row.take (i + 1)) g = rsum (row.take i) g + (if row[i] = -1 then 0 else g row[i]) := fun g => by
      rw [take_snoc hi]; simp only [rsum, List.map_append, List.sum_append, List.map_cons, List.map_nil, List.sum_cons, List.sum_nil, Int.add_zero]
    walk_at "go"
    by_cases ht : row[i] = -1
    · simp (config := {decide := true}) only [ht, w_run, w_op, w_isi, Dg.wipeU, w_powI, w_intB, w_sl, w_oNone, w_oSome, w_slT, w_slF, w_ixF, w_lenF, w_abs, w_max2, w_min2, w_fdivI, w_neg, w_andE, w_orE, w_notE, w_chain, w_c, w_var, w_call, w_def, w_anil, w_acons, w_tup, w_lst, w_int, w_intB, w_lenT, w_addI, w_subI, w_modI, w_mulI, w_ltI, w_leI, w_gtI, w_geI, w_eq, w_ne, w_ixT, w_if, w_nt, w_an, w_or, w_all, w_tstB, w_tst, w_app, w_lc, w_for, w_iseqT, w_rg1, w_rev1, w_d0, Dg.eq_str, Dg.eq_int, s_seq, s_next, s_brk, s_cnt, s_expr, s_ret, s_retN, s_if, w_getE, w_items, w_keys, w_fmt, w_js0, w_js, s_asg1, s_store, s_tryAs, s_try, w_isX, s_raise, List.map_cons, List.map_nil, List.cons_append, List.nil_append, List.length_cons, List.length_nil, List.replicate_succ, List.replicate_zero, Nat.add_sub_cancel, Nat.sub_self, Nat.sub_zero, Nat.reduceAdd, Nat.reduceSub, Nat.zero_add, List.set_cons_succ, List.set_cons_zero, List.getElem?_cons_zero, List.getElem?_cons_succ, Option.some.injEq, exists_eq_left', exists_eq_left, exists_eq_right', U.bl.injEq, U.int.injEq, U.ref.injEq, U.str.injEq, atI_0, atI_1, atI_2, atI_3, atI_4, atI_5, if_true, if_false, true_and, and_true, decide_true, decide_false, Bool.not_true, Bool.not_false, reduceCtorEq, ite_true, ite_false, decide_eq_true_eq, Bool.true_eq_false, Bool.false_eq_true]
      exact ⟨⟨_, rfl⟩, f1, al, c1, nd, kin, vals', fun g => by rw [hw, hr, if_pos ht]; omega⟩
    · simp (config := {decide := true}) only [ht, w_run, w_op, w_isi, Dg.wipeU, w_powI, w_intB, w_sl, w_oNone, w_oSome, w_slT, w_slF, w_ixF, w_lenF, w_abs, w_max2, w_min2, w_fdivI, w_neg, w_andE, w_orE, w_notE, w_chain, w_c, w_var, w_call, w_def, w_anil, w_acons, w_tup, w_lst, w_int, w_intB, w_lenT, w_addI, w_subI, w_modI, w_mulI, w_ltI, w_leI, w_gtI, w_geI, w_eq, w_ne, w_ixT, w_if, w_nt, w_an, w_or, w_all, w_tstB, w_tst, w_app, w_lc, w_for, w_iseqT, w_rg1, w_rev1, w_d0, Dg.eq_str, Dg.eq_int, s_seq, s_next, s_brk, s_cnt, s_expr, s_ret, s_retN, s_if, w_getE, w_items, w_keys, w_fmt, w_js0, w_js, s_asg1, s_store, s_tryAs, s_try, w_isX, s_raise, List.map_cons, List.map_nil, List.cons_append, List.nil_append, List.length_cons, List.length_nil, List.replicate_succ, List.replicate_zero, Nat.add_sub_cancel, Nat.sub_self, Nat.sub_zero, Nat.reduceAdd, Nat.reduceSub, Nat.zero_add, List.set_cons_succ, List.set_cons_zero, List.getElem?_cons_zero, List.getElem?_cons_succ, Option.some.injEq, exists_eq_left', exists_eq_left, exists_eq_right', U.bl.injEq, U.int.injEq, U.ref.injEq, U.str.injEq, atI_0, atI_1, atI_2, atI_3, atI_4, atI_5, if_true, if_false, true_and, and_true, decide_true, decide_false, Bool.not_true, Bool.not_false, reduceCtorEq, ite_true, ite_false, decide_eq_true_eq, Bool.true_eq_false, Bool.false_eq_true]
      refine ⟨⟨_, rd_D c1⟩, _, _, rd_D c1, rfl, ?_⟩
      rw [valU_kus, getD_int]
      walk_at "go"
      obtain ⟨e, nd', kin'⟩ := bump (c := 1) c1 nd kin (k := row[i]) (by omega) hS
      refine ⟨_, e, ⟨_, rfl⟩, f1.put (Nat.le_refl _), _, get_set c1, nd', kin', ?_, fun g => ?_⟩
      · have := getA_val (k := row[i]) vals (by omega)
        exact put_vals vals' (by omega)
      · rw [wt_put nd, hw, hr, if_neg ht]; omega
  · rintro s' μ1 ⟨⟨x, rfl⟩, f1, al, c1, nd, kin, vals, hw⟩
    rw [show (row.map U.int).length = row.length by simp, List.take_length] at hw
    walk_at "go"
    refine q al μ1 nd kin (fun p hp => by have := vals p hp; simp at this; omega) hw f1 c1
structure CountsS (S : Nat) (g : List U → Mem → Res U) : Prop where
  ap : ∀ {al : List (Int × Int)} {rc rw : Nat} {refs : List Nat} {W : List (List (Int × Int))} {μ : Mem} {Q : U → Mem → Prop} {E : Str → Mem → Prop}, μ[rc]? = some (.dct (kusOf al)) → NdA al → KIn S al → μ[rw]? = some (.lst (refs.map U.ref)) →
    refs.length = S → W.length = S → (∀ i (h1 : i < refs.length) (h2 : i < W.length), μ[refs[i]]? = some (.dct (kusOf W[i])) ∧ refs[i] ≠ rc ∧ KIn S W[i] ∧ W[i].length ≤ 400 ∧ ∀ p ∈ W[i], 0 ≤ p.2 ∧ p.2 ≤ 200) →
    (∀ (al' : List (Int × Int)) μ', NdA al' → KIn S al' → (∀ g, wt al' g = wt al (fun s => wt (W.getD s.toNat []) g)) → Fr μ μ' → μ'[μ.length]? = some (.dct (kusOf al')) → Q (.ref μ.length) μ') → wpE (g [.ref rc, .ref rw] μ) Q E
theorem wt_take {al : List (Int × Int)} {i : Nat} (h : i < al.length) {g : Int → Int} : wt (al.take (i + 1)) g = wt (al.take i) g + al[i].2 * g al[i].1 := by
  rw [take_snoc h]; simp only [wt, List.map_append, List.sum_append, List.map_cons, List.map_nil, List.sum_cons, List.sum_nil, Int.add_zero]
theorem counts_s {C : Calls} {S : Nat} (hS : S ≤ 400) : CountsS S (runDef 7 (b_counts_behind C)) := by
  constructor
  intro al rc rw' refs W μ Q E hrc nd kin hrw hl1 hl2 hW q
  have hal := nd_len nd kin
  have lrc := get_lt hrc
  have lrw := get_lt hrw
  unfold b_counts_behind
  walk_at "go"
  have c0 : (μ ++ [Cell.dct []])[rc]? = some (.dct (kusOf al)) := get_snoc_lt hrc
  refine s_lockD rfl c0 ?_
  have cL : ((μ ++ [Cell.dct []]).set rc (.fdc (kusOf al)))[rc]? = some (.fdc (kusOf al)) := get_set c0
  walk_at "go"
  refine ⟨_, fdc_F cL, ksOk_kus, ?_⟩
  rw [items_kus]
  have neW : rw' ≠ rc := fun e => by rw [e, hrc] at hrw; cases hrw
  -- the memory while counts is locked
  refine for_seq (fun i s' μ' => (∃ x3 x4 x5 x6, s' = [some (.ref rc), some (.ref rw'), some (.ref μ.length), x3, x4, x5, x6]) ∧ Fr (μ.set rc (.fdc (kusOf al))) μ' ∧
    ∃ al' : List (Int × Int), μ'[μ.length]? = some (.dct (kusOf al')) ∧ NdA al' ∧ KIn S al' ∧ ∀ g, wt al' g = wt (al.take i) (fun s => wt (W.getD s.toNat []) g)) (by simpa using (by omega : al.length < 1000000))
    ⟨⟨_, _, _, _, rfl⟩, ?_, [], ?_, by simp [NdA], by simp [KIn], by simp [wt]⟩ ?_ ?_
  · rw [List.set_append_left _ _ lrc]; exact Fr.refl.snoc
  · rw [List.set_append_left _ _ lrc]
    have : (μ.set rc (.fdc (kusOf al))).length = μ.length := by simp
    rw [← this]
    exact get_snoc
  · rintro i s' μ1 hi ⟨⟨x3, x4, x5, x6, rfl⟩, f1, al', c1, nd', kin', hw⟩
    simp only [List.length_map] at hi
    refine ⟨_, by simp only [List.getElem_map]; rfl, ?_⟩
    obtain ⟨k0, k1⟩ := kin _ (List.getElem_mem hi)
    have hn1 : al[i].1.toNat < refs.length := by omega
    have hn2 : al[i].1.toNat < W.length := by omega
    obtain ⟨w1, w2, w3, w4, w5⟩ := hW _ hn1 hn2
    have lw := get_lt w1
    have cw : μ1[refs[al[i].1.toNat]]? = some (.dct (kusOf W[al[i].1.toNat])) := f1.at_ _ _ (get_set_ne w1 (Ne.symm w2))
    have cr : μ1[rw']? = some (.lst (refs.map U.ref)) := f1.at_ _ _ (get_set_ne hrw (Ne.symm neW))
    have ix : atI (refs.map U.ref) al[i].1 = some (.ref refs[al[i].1.toNat]) := by
      rw [atI_toNat k0 (by simpa using hn1)]
      simp
    have hv : ∀ (sl : Slots) (m : Mem), sl[1]? = some (some (.ref rw')) → sl[3]? = some (some (.int al[i].1)) → m[rw']? = some (.lst (refs.map U.ref)) → fOp ixU (fVar 1) (fVar 3) sl m = .ok (.ref refs[al[i].1.toNat]) m := by
      intro sl m e1 e2 e3
      unfold fOp fVar
      simp only [e1, e2, Res.bind]
      rw [ix_L e3, ix]
      rfl
    simp only [setAll, List.set_cons_succ, List.set_cons_zero]
    refine s_lockD (hv _ _ rfl rfl cr) cw ?_
    have cr2 : (μ1.set refs[al[i].1.toNat] (.fdc (kusOf W[al[i].1.toNat])))[rw']? = some (.lst (refs.map U.ref)) := get_set_ne cr (fun e => by rw [e, cr] at cw; cases cw)
    walk_at "go"
    rw [w_ixL cr2]
    refine ⟨_, ix, _, fdc_F (get_set cw), ksOk_kus, ?_⟩
    rw [items_kus]
    have ne : refs[al[i].1.toNat] ≠ μ.length := by omega
    have lf := get_lt c1
    refine for_seq (fun j s' μ' => (∃ x5 x6, s' = [some (.ref rc), some (.ref rw'), some (.ref μ.length), some (.int al[i].1), some (.int al[i].2), x5, x6]) ∧
      (∀ z c, z ≠ μ.length → (μ1.set refs[al[i].1.toNat] (.fdc (kusOf W[al[i].1.toNat])))[z]? = some c → μ'[z]? = some c) ∧ μ1.length ≤ μ'.length ∧
      ∃ al2 : List (Int × Int), μ'[μ.length]? = some (.dct (kusOf al2)) ∧ NdA al2 ∧ KIn S al2 ∧ ∀ g, wt al2 g = wt (al.take i) (fun s => wt (W.getD s.toNat []) g) + al[i].2 * wt (W[al[i].1.toNat].take j) g) (by simpa using (by omega : W[al[i].1.toNat].length < 1000000))
      ⟨⟨_, _, rfl⟩, fun z c hz h => h, by simp, al', get_set_ne c1 ne, nd', kin', fun g => by rw [hw]; simp [wt]⟩ ?_ ?_
    · rintro j s' μ2 hj ⟨⟨x5, x6, rfl⟩, st2, le2, al2, c2, nd2, kin2, hw2⟩
      simp only [List.length_map] at hj
      refine ⟨_, by simp only [List.getElem_map]; rfl, ?_⟩
      simp only [setAll, List.set_cons_succ, List.set_cons_zero]
      obtain ⟨t0, t1⟩ := w3 _ (List.getElem_mem hj)
      obtain ⟨v0, v1⟩ := w5 _ (List.getElem_mem hj)
      have hb : big64 W[al[i].1.toNat][j].2 = true := by simp [big64]; omega
      simp (config := {decide := true}) only [hb, Bool.or_true, w_run, w_op, w_isi, Dg.wipeU, w_powI, w_intB, w_sl, w_oNone, w_oSome, w_slT, w_slF, w_ixF, w_lenF, w_abs, w_max2, w_min2, w_fdivI, w_neg, w_andE, w_orE, w_notE, w_chain, w_c, w_var, w_call, w_def, w_anil, w_acons, w_tup, w_lst, w_int, w_intB, w_lenT, w_addI, w_subI, w_modI, w_mulI, w_ltI, w_leI, w_gtI, w_geI, w_eq, w_ne, w_ixT, w_if, w_nt, w_an, w_or, w_all, w_tstB, w_tst, w_app, w_lc, w_for, w_iseqT, w_rg1, w_rev1, w_d0, Dg.eq_str, Dg.eq_int, s_seq, s_next, s_brk, s_cnt, s_expr, s_ret, s_retN, s_if, w_getE, w_items, w_keys, w_fmt, w_js0, w_js, s_asg1, s_store, s_tryAs, s_try, w_isX, s_raise, List.map_cons, List.map_nil, List.cons_append, List.nil_append, List.length_cons, List.length_nil, List.replicate_succ, List.replicate_zero, Nat.add_sub_cancel, Nat.sub_self, Nat.sub_zero, Nat.reduceAdd, Nat.reduceSub, Nat.zero_add, List.set_cons_succ, List.set_cons_zero, List.getElem?_cons_zero, List.getElem?_cons_succ, Option.some.injEq, exists_eq_left', exists_eq_left, exists_eq_right', U.bl.injEq, U.int.injEq, U.ref.injEq, U.str.injEq, atI_0, atI_1, atI_2, atI_3, atI_4, atI_5, if_true, if_false, true_and, and_true, decide_true, decide_false, Bool.not_true, Bool.not_false, reduceCtorEq, ite_true, ite_false, decide_eq_true_eq, Bool.true_eq_false, Bool.false_eq_true]
      refine ⟨⟨_, rd_D c2⟩, _, _, rd_D c2, rfl, ?_⟩
      rw [valU_kus, getD_int]
      simp (config := {decide := true}) only [hb, Bool.or_true, w_run, w_op, w_isi, Dg.wipeU, w_powI, w_intB, w_sl, w_oNone, w_oSome, w_slT, w_slF, w_ixF, w_lenF, w_abs, w_max2, w_min2, w_fdivI, w_neg, w_andE, w_orE, w_notE, w_chain, w_c, w_var, w_call, w_def, w_anil, w_acons, w_tup, w_lst, w_int, w_intB, w_lenT, w_addI, w_subI, w_modI, w_mulI, w_ltI, w_leI, w_gtI, w_geI, w_eq, w_ne, w_ixT, w_if, w_nt, w_an, w_or, w_all, w_tstB, w_tst, w_app, w_lc, w_for, w_iseqT, w_rg1, w_rev1, w_d0, Dg.eq_str, Dg.eq_int, s_seq, s_next, s_brk, s_cnt, s_expr, s_ret, s_retN, s_if, w_getE, w_items, w_keys, w_fmt, w_js0, w_js, s_asg1, s_store, s_tryAs, s_try, w_isX, s_raise, List.map_cons, List.map_nil, List.cons_append, List.nil_append, List.length_cons, List.length_nil, List.replicate_succ, List.replicate_zero, Nat.add_sub_cancel, Nat.sub_self, Nat.sub_zero, Nat.reduceAdd, Nat.reduceSub, Nat.zero_add, List.set_cons_succ, List.set_cons_zero, List.getElem?_cons_zero, List.getElem?_cons_succ, Option.some.injEq, exists_eq_left', exists_eq_left, exists_eq_right', U.bl.injEq, U.int.injEq, U.ref.injEq, U.str.injEq, atI_0, atI_1, atI_2, atI_3, atI_4, atI_5, if_true, if_false, true_and, and_true, decide_true, decide_false, Bool.not_true, Bool.not_false, reduceCtorEq, ite_true, ite_false, decide_eq_true_eq, Bool.true_eq_false, Bool.false_eq_true]
      obtain ⟨e, nd3, kin3⟩ := bump (c := al[i].2 * W[al[i].1.toNat][j].2) c2 nd2 kin2 (k := W[al[i].1.toNat][j].1) ⟨t0, t1⟩ hS
      refine ⟨_, e, ⟨_, _, rfl⟩, fun z c hz h => by rw [List.getElem?_set_ne (Ne.symm hz)]; exact st2 z c hz h, by simpa using le2, _, get_set c2, nd3, kin3, fun g => ?_⟩
      rw [wt_put nd2, hw2, wt_take hj, Int.mul_add, Int.mul_assoc]
      omega
    · rintro s' μ2 ⟨⟨x5, x6, rfl⟩, st2, le2, al2, c2, nd2, kin2, hw2⟩
      rw [show (W[al[i].1.toNat].map fun p => U.tup [.int p.1, .int p.2]).length = W[al[i].1.toNat].length by simp, List.take_length] at hw2
      have cF : μ2[refs[al[i].1.toNat]]? = some (.fdc (kusOf W[al[i].1.toNat])) := st2 _ _ ne (get_set cw)
      refine ⟨_, cF, ⟨_, _, _, _, rfl⟩, ⟨?_, fun z c hz => ?_⟩, al2, get_set_ne c2 ne, nd2, kin2, fun g => ?_⟩
      · have := f1.le; simp at this ⊢; omega
      · have lz := get_lt hz
        simp at lz
        by_cases e : z = refs[al[i].1.toNat]
        · subst e
          have := f1.at_ _ _ hz
          rw [cw] at this
          cases this
          exact get_set cF
        · rw [List.getElem?_set_ne (Ne.symm e)]
          exact st2 z c (by omega) (by rw [List.getElem?_set_ne (Ne.symm e)]; exact f1.at_ _ _ hz)
      · rw [hw2, wt_take hi]
        simp [hn2]
  · rintro s' μ1 ⟨⟨x3, x4, x5, x6, rfl⟩, f1, al', c1, nd', kin', hw⟩
    rw [show (al.map fun p => U.tup [.int p.1, .int p.2]).length = al.length by simp, List.take_length] at hw
    have cE : μ1[rc]? = some (.fdc (kusOf al)) := f1.at_ _ _ (get_set hrc)
    refine ⟨_, cE, ?_⟩
    walk_at "go"
    exact q al' _ nd' kin' hw (Fr.unlock hrc f1) (get_set_ne c1 (by omega))
def Mc.step (M : Mc) (g : Int → Int) : Int → Int := fun s => rsum (M.mv.getD s.toNat []) g
def Mc.it (M : Mc) : Nat → (Int → Int) → Int → Int
  | 0, g => g
  | n + 1, g => M.it n (M.step g)
def Mc.accG (M : Mc) : Int → Int := fun s => if M.end_ s = true then 1 else 0
def Mc.ini (M : Mc) : List (Int × Int) := if M.mv = [] then [] else [(0, 1)]
def Mc.cnt (M : Mc) (n : Nat) : Int := wt M.ini (M.it n M.accG)
theorem perm_sum {a b : List Int} (p : a.Perm b) : a.sum = b.sum := by
  induction p with
  | nil => rfl
  | cons x _ ih => simp [ih]
  | swap x y l => simp only [List.sum_cons]; omega
  | trans _ _ h1 h2 => exact h1.trans h2
theorem getA_self : ∀ {al : List (Int × Int)}, NdA al → ∀ p ∈ al, getA al p.1 = some p.2
  | [], _, p, hp => nomatch hp
  | (a, b) :: al, h, p, hp => by
    have h2 : a ∉ al.map (·.1) ∧ NdA al := by simpa [NdA] using h
    rcases List.mem_cons.mp hp with rfl | hp
    · simp [getA]
    · have ne : ¬ a = p.1 := fun e => h2.1 (e ▸ List.mem_map_of_mem hp)
      have ih := getA_self h2.2 p hp
      have : getA ((a, b) :: al) p.1 = getA al p.1 := by simp [getA, ne]
      rw [this, ih]
theorem wt_keys {al : List (Int × Int)} (nd : NdA al) {ks : List Int} (hp : ks.Perm (al.map (·.1))) (h : Int → Int) : (ks.map fun s => (getA al s).getD 0 * h s).sum = wt al h := by
  rw [perm_sum (hp.map _), List.map_map]
  unfold wt
  congr 1
  refine List.map_congr_left fun p hp => ?_
  simp only [Function.comp, getA_self nd p hp, Option.getD_some]
theorem wt_congr {al : List (Int × Int)} {f g : Int → Int} (h : ∀ p ∈ al, f p.1 = g p.1) : wt al f = wt al g := by
  unfold wt
  congr 1
  exact List.map_congr_left fun p hp => by rw [h p hp]
theorem wt_acc {M : Mc} (al : List (Int × Int)) : wt al M.accG = ((al.filter fun p => M.end_ p.1).map (·.2)).sum := by
  induction al with
  | nil => rfl
  | cons p al ih =>
    have e : wt (p :: al) M.accG = p.2 * M.accG p.1 + wt al M.accG := by simp [wt]
    rw [e, ih]
    by_cases h : M.end_ p.1 = true
    · simp [Mc.accG, h]
    · simp [Mc.accG, h]
theorem ini_ok {M : Mc} : NdA M.ini ∧ KIn M.mv.length M.ini ∧ M.ini.length ≤ 1 := by
  unfold Mc.ini
  split
  · exact ⟨by simp [NdA], by simp [KIn], by simp⟩
  · rename_i h
    have := List.length_pos_iff.mpr h
    exact ⟨by simp [NdA], by intro p hp; simp at hp; subst hp; simp; omega, by simp⟩
theorem disp01 {s : Slots} {μ : Mem} : fDisp [((fC (.int 0)), (fC (.int 1)))] s μ = .ok (.ref μ.length) (μ ++ [.dct (kusOf [(0, 1)])]) := by
  unfold fDisp fPairs
  simp [fC, Res.bind, fPairs, keyU, mergeU, putU, kusOf]
structure CountWordsS (g : List U → Mem → Res U) : Prop where
  good : ∀ {M : Mc} {n : Nat} {μ : Mem} {Q : U → Mem → Prop} {E : Str → Mem → Prop}, M.ok → M.L ≤ 200 → M.mv.length ≤ 400 → n ≤ 100 → (∀ μ', Fr μ μ' → Q (.int (M.cnt n)) μ') → wpE (g [mU M, .int n] μ) Q E
  bad : ∀ {M : Mc} {n : Int} {μ : Mem} {Q : U → Mem → Prop} {E : Str → Mem → Prop}, ¬ (0 ≤ n ∧ n ≤ 100) → (∀ μ', Fr μ μ' → E "NotAllowed" μ') → wpE (g [mU M, .int n] μ) Q E
theorem sum_filter {M : Mc} {al : List (Int × Int)} : intsU (((al.map fun p => U.tup [.int p.1, .int p.2]).filter (fun u => match u with | .tup [.int k, _] => M.end_ k | _ => false)).map (fun u => match u with | .tup [_, v] => v | _ => .non)) = some ((al.filter fun p => M.end_ p.1).map (·.2)) := by
  induction al with
  | nil => rfl
  | cons p al ih =>
    by_cases h : M.end_ p.1 = true
    · simp only [List.map_cons, List.filter_cons, h, if_true, List.map_cons, intsU]
      rw [ih]
      rfl
    · simp only [List.map_cons, List.filter_cons, h, if_false]
      simpa using ih
theorem count_words_s {C : Calls} (h3 : ∀ S, S ≤ 400 → WaysS S (C 3)) (h4 : ∀ S, S ≤ 400 → CountsS S (C 4)) : CountWordsS (runDef 10 (b_count_words C)) := by
  have t100 : (toString (100 : Int) : Str).length = 3 := by decide +kernel
  have l1 : (Str.ofString "the length is not from 0 to ").length = 28 := by decide +kernel
  have e0 : Str.empty.length = 0 := by decide +kernel
  constructor
  · intro M n μ Q E ok hL hS hn q
    unfold b_count_words mU
    have n0 : (0 : Int) ≤ n := by omega
    have n1 : (n : Int) ≤ 100 := by omega
    simp (config := {decide := true}) only [s_asg, setT, setAll, n0, n1, w_run, w_op, w_isi, Dg.wipeU, w_powI, w_intB, w_sl, w_oNone, w_oSome, w_slT, w_slF, w_ixF, w_lenF, w_abs, w_max2, w_min2, w_fdivI, w_neg, w_andE, w_orE, w_notE, w_chain, w_c, w_var, w_call, w_def, w_anil, w_acons, w_tup, w_lst, w_int, w_intB, w_lenT, w_addI, w_subI, w_modI, w_mulI, w_ltI, w_leI, w_gtI, w_geI, w_eq, w_ne, w_ixT, w_if, w_nt, w_an, w_or, w_all, w_tstB, w_tst, w_app, w_lc, w_for, w_iseqT, w_rg1, w_rev1, w_d0, Dg.eq_str, Dg.eq_int, s_seq, s_next, s_brk, s_cnt, s_expr, s_ret, s_retN, s_if, w_getE, w_items, w_keys, w_fmt, w_js0, w_js, s_asg1, s_store, s_tryAs, s_try, w_isX, s_raise, List.map_cons, List.map_nil, List.cons_append, List.nil_append, List.length_cons, List.length_nil, List.replicate_succ, List.replicate_zero, Nat.add_sub_cancel, Nat.sub_self, Nat.sub_zero, Nat.reduceAdd, Nat.reduceSub, Nat.zero_add, List.set_cons_succ, List.set_cons_zero, List.getElem?_cons_zero, List.getElem?_cons_succ, Option.some.injEq, exists_eq_left', exists_eq_left, exists_eq_right', U.bl.injEq, U.int.injEq, U.ref.injEq, U.str.injEq, atI_0, atI_1, atI_2, atI_3, atI_4, atI_5, if_true, if_false, true_and, and_true, decide_true, decide_false, Bool.not_true, Bool.not_false, reduceCtorEq, ite_true, ite_false, decide_eq_true_eq, Bool.true_eq_false, Bool.false_eq_true]
    refine lc_seq (fun i μ' => Fr μ μ' ∧ ∃ (refs : List Nat) (W : List (List (Int × Int))), μ'[μ.length]? = some (.lst (refs.map U.ref)) ∧ refs.length = i ∧ W.length = i ∧
      ∀ j (h1 : j < refs.length) (h2 : j < W.length) (h3 : j < M.mv.length), μ'[refs[j]]? = some (.dct (kusOf W[j])) ∧ NdA W[j] ∧ KIn M.mv.length W[j] ∧ (∀ p ∈ W[j], 0 ≤ p.2 ∧ p.2 ≤ 200) ∧ (∀ g, wt W[j] g = rsum M.mv[j] g)) (by simpa using (by omega : M.mv.length < 1000000))
      ⟨Fr.refl.snoc, [], [], by simp, rfl, rfl, by simp⟩ ?_ ?_
    · rintro i μ1 hi ⟨f1, refs, W, c1, r1, r2, r3⟩
      simp only [List.length_map] at hi
      refine ⟨_, rfl, ?_⟩
      simp only [List.getElem_map]
      obtain ⟨p1, p2⟩ := ok.row _ (List.getElem_mem hi)
      walk_at "go"
      refine (h3 M.mv.length hS).ap (by omega) p2 fun al μ2 nd kin vals hw f2 c2 => ?_
      have c1' := f2.at_ _ _ c1
      have l1' := get_lt c1
      refine ⟨_, c1', by simp [lim]; omega, (f1.trans f2).put (Nat.le_refl _), refs ++ [μ1.length], W ++ [al], by rw [get_set c1']; simp, by simp; omega, by simp; omega, ?_⟩
      intro j h1 h2 h3
      by_cases e : j < i
      · obtain ⟨q1, q2⟩ := r3 j (by omega) (by omega) h3
        rw [List.getElem_append_left (by omega), List.getElem_append_left (by omega)]
        exact ⟨get_set_ne (f2.at_ _ _ q1) (fun z => by rw [← z, c1] at q1; cases q1), q2⟩
      · have e2 : j = i := by simp at h1; omega
        subst e2
        rw [List.getElem_append_right (by omega), List.getElem_append_right (by omega)]
        simp only [r1, r2, Nat.sub_self, List.getElem_cons_zero]
        exact ⟨get_set_ne c2 (by omega), nd, kin, vals, hw⟩
    · rintro μ1 ⟨f1, refs, W, c1, r1, r2, r3⟩
      rw [List.length_map] at r1 r2
      refine ⟨_, tru_T, ?_⟩
      -- the first counts
      have hini : ∀ {Q : U → Mem → Prop}, (∀ μ2, Fr μ1 μ2 → μ2[μ1.length]? = some (.dct (kusOf M.ini)) → Q (.ref μ1.length) μ2) → (if (!(M.mv.map rwU).isEmpty) = true then wpE (fDisp [((fC (.int 0)), (fC (.int 1)))] [some (.tup [.int M.L, .tup (M.mv.map rwU), .tup (M.ac.map U.bl)]), some (.int n), some (.int M.L), some (.tup (M.mv.map rwU)), some (.tup (M.ac.map U.bl)), some (.ref μ.length), none, none, none, none] μ1) Q E else Q (.ref μ1.length) (μ1 ++ [.dct []])) := by
        intro Q k
        split
        · rename_i h
          rw [disp01]
          refine k _ Fr.refl.snoc ?_
          have : M.mv ≠ [] := by rintro e; rw [e] at h; simp at h
          unfold Mc.ini
          rw [if_neg this]
          exact get_snoc
        · rename_i h
          refine k _ Fr.refl.snoc ?_
          have : M.mv = [] := by
            cases e : M.mv with
            | nil => rfl
            | cons a b => rw [e] at h; simp at h
          unfold Mc.ini
          rw [if_pos this]
          exact get_snoc
      refine hini fun μ2 f2 c2 => ?_
      have n62 : okR n = true := by simp [okR]; omega
      refine ⟨n62, ?_⟩
      obtain ⟨i1, i2, i3⟩ := ini_ok (M := M)
      refine for_rng n (fun i s' μ' => ∃ (x2 : Option U) (rc : Nat) (al : List (Int × Int)), s' = [some (.tup [.int M.L, .tup (M.mv.map rwU), .tup (M.ac.map U.bl)]), some (.int n), x2, some (.tup (M.mv.map rwU)), some (.tup (M.ac.map U.bl)), some (.ref μ.length), some (.ref rc), none, none, none] ∧
        Fr μ1 μ' ∧ μ1.length ≤ rc ∧ μ'[rc]? = some (.dct (kusOf al)) ∧ NdA al ∧ KIn M.mv.length al ∧ ∀ g, wt al g = wt M.ini (M.it i g)) (by simp) (by omega)
        ⟨_, _, M.ini, rfl, f2, Nat.le_refl _, c2, i1, i2, fun g => rfl⟩ ?_ ?_
      · rintro i s' μ3 hi ⟨x2, rc, al, rfl, f3, hrc, c3, nd, kin, hw⟩
        refine ⟨_, rfl, ?_⟩
        walk_at "go"
        refine (h4 M.mv.length hS).ap c3 nd kin (f3.at_ _ _ c1) r1 r2 (fun j h1 h2 => ?_) fun al' μ4 nd' kin' hw' f4 c4 => ?_
        · obtain ⟨q1, q2, q3, q4, q5⟩ := r3 j h1 h2 (by omega)
          refine ⟨f3.at_ _ _ q1, fun e => ?_, q3, ?_, q4⟩
          · have := get_lt q1; omega
          · have := nd_len q2 q3; omega
        · refine ⟨_, μ3.length, al', rfl, f3.trans f4, by have := f3.le; omega, c4, nd', kin', fun g => ?_⟩
          rw [hw']
          have : wt al (fun s => wt (W.getD s.toNat []) g) = wt al (M.step g) := by
            refine wt_congr fun p hp => ?_
            obtain ⟨k0, k1⟩ := kin p hp
            have hn : p.1.toNat < W.length := by omega
            have hm : p.1.toNat < M.mv.length := by omega
            obtain ⟨_, _, _, _, q5⟩ := r3 p.1.toNat (by omega) hn hm
            unfold Mc.step
            simp only [List.getD_eq_getElem?_getD, List.getElem?_eq_getElem hn, List.getElem?_eq_getElem hm, Option.getD_some]
            exact q5 g
          rw [this, hw]
          rfl
      · rintro s' μ3 ⟨x2, rc, al, rfl, f3, hrc, c3, nd, kin, hw⟩
        have hal := nd_len nd kin
        walk_at "go"
        refine w_lockD rfl c3 ?_
        walk_at "go"
        refine ⟨_, fdc_F (get_set c3), ksOk_kus, ?_⟩
        rw [items_kus]
        refine lc_sel (fun u => match u with | .tup [.int k, _] => M.end_ k | _ => false) (fun u => match u with | .tup [_, v] => v | _ => .non) (by simp; omega) ?_ ?_
        · intro i μ4 hi f4
          simp only [List.length_map] at hi
          obtain ⟨k0, k1⟩ := kin _ (List.getElem_mem hi)
          refine ⟨_, by simp only [List.getElem_map]; rfl, ?_⟩
          simp only [setAll]
          walk_at "go"
          refine ⟨_, Mc.end_at ok k0 k1, _, tru_b, ?_⟩
          simp only [List.getElem_map]
          exact ⟨trivial, .refl, fun _ => ⟨trivial, .refl⟩⟩
        · intro μ4 f4 c4
          have cE : μ4[rc]? = some (.fdc (kusOf al)) := f4.at_ _ _ (get_set c3)
          refine ⟨_, cE, ?_⟩
          have l3 : (μ3.set rc (.fdc (kusOf al))).length = μ3.length := by simp
          rw [l3] at c4 ⊢
          have lrc := get_lt c3
          have c5 : (μ4.set rc (.dct (kusOf al)))[μ3.length]? = _ := get_set_ne c4 (by omega)
          rw [w_sumL c5 sum_filter, ← wt_acc, hw]
          exact q _ ((f1.trans f3).trans (Fr.unlock c3 f4))
  · intro M n μ Q E hn q
    unfold b_count_words mU
    have one : ∃ y, fmtOk (U.int 100) y ∧ (Str.empty ++ Str.ofString "the length is not from 0 to " ++ y).length ≤ lim ∧ E (Str.ofString "NotAllowed") μ := ⟨_, fmt_int (by decide), by rw [len_app, len_app, e0, l1, t100]; simp [lim], q μ .refl⟩
    by_cases h0 : 0 ≤ n
    · have h1 : ¬ n ≤ 100 := fun z => hn ⟨h0, z⟩
      simp (config := {decide := true}) only [h0, h1, w_run, w_op, w_isi, Dg.wipeU, w_powI, w_intB, w_sl, w_oNone, w_oSome, w_slT, w_slF, w_ixF, w_lenF, w_abs, w_max2, w_min2, w_fdivI, w_neg, w_andE, w_orE, w_notE, w_chain, w_c, w_var, w_call, w_def, w_anil, w_acons, w_tup, w_lst, w_int, w_intB, w_lenT, w_addI, w_subI, w_modI, w_mulI, w_ltI, w_leI, w_gtI, w_geI, w_eq, w_ne, w_ixT, w_if, w_nt, w_an, w_or, w_all, w_tstB, w_tst, w_app, w_lc, w_for, w_iseqT, w_rg1, w_rev1, w_d0, Dg.eq_str, Dg.eq_int, s_seq, s_next, s_brk, s_cnt, s_expr, s_ret, s_retN, s_if, w_getE, w_items, w_keys, w_fmt, w_js0, w_js, s_asg1, s_store, s_tryAs, s_try, w_isX, s_raise, List.map_cons, List.map_nil, List.cons_append, List.nil_append, List.length_cons, List.length_nil, List.replicate_succ, List.replicate_zero, Nat.add_sub_cancel, Nat.sub_self, Nat.sub_zero, Nat.reduceAdd, Nat.reduceSub, Nat.zero_add, List.set_cons_succ, List.set_cons_zero, List.getElem?_cons_zero, List.getElem?_cons_succ, Option.some.injEq, exists_eq_left', exists_eq_left, exists_eq_right', U.bl.injEq, U.int.injEq, U.ref.injEq, U.str.injEq, atI_0, atI_1, atI_2, atI_3, atI_4, atI_5, if_true, if_false, true_and, and_true, decide_true, decide_false, Bool.not_true, Bool.not_false, reduceCtorEq, ite_true, ite_false, decide_eq_true_eq, Bool.true_eq_false, Bool.false_eq_true]
      exact one
    · simp (config := {decide := true}) only [h0, w_run, w_op, w_isi, Dg.wipeU, w_powI, w_intB, w_sl, w_oNone, w_oSome, w_slT, w_slF, w_ixF, w_lenF, w_abs, w_max2, w_min2, w_fdivI, w_neg, w_andE, w_orE, w_notE, w_chain, w_c, w_var, w_call, w_def, w_anil, w_acons, w_tup, w_lst, w_int, w_intB, w_lenT, w_addI, w_subI, w_modI, w_mulI, w_ltI, w_leI, w_gtI, w_geI, w_eq, w_ne, w_ixT, w_if, w_nt, w_an, w_or, w_all, w_tstB, w_tst, w_app, w_lc, w_for, w_iseqT, w_rg1, w_rev1, w_d0, Dg.eq_str, Dg.eq_int, s_seq, s_next, s_brk, s_cnt, s_expr, s_ret, s_retN, s_if, w_getE, w_items, w_keys, w_fmt, w_js0, w_js, s_asg1, s_store, s_tryAs, s_try, w_isX, s_raise, List.map_cons, List.map_nil, List.cons_append, List.nil_append, List.length_cons, List.length_nil, List.replicate_succ, List.replicate_zero, Nat.add_sub_cancel, Nat.sub_self, Nat.sub_zero, Nat.reduceAdd, Nat.reduceSub, Nat.zero_add, List.set_cons_succ, List.set_cons_zero, List.getElem?_cons_zero, List.getElem?_cons_succ, Option.some.injEq, exists_eq_left', exists_eq_left, exists_eq_right', U.bl.injEq, U.int.injEq, U.ref.injEq, U.str.injEq, atI_0, atI_1, atI_2, atI_3, atI_4, atI_5, if_true, if_false, true_and, and_true, decide_true, decide_false, Bool.not_true, Bool.not_false, reduceCtorEq, ite_true, ite_false, decide_eq_true_eq, Bool.true_eq_false, Bool.false_eq_true]
      exact one
theorem w_sortedK {r : Nat} {al : List (Int × Int)} {μ : Mem} {Q : U → Mem → Prop} {E : Str → Mem → Prop} (h : μ[r]? = some (.dct (kusOf al))) (hl : al.length < 64) : wpE (bSorted [.ref r] μ) Q E = Q (.ref μ.length) (μ ++ [.lst ((sortI (al.map (·.1))).map U.int)]) := by
  have ki : ∀ al : List (Int × Int), keysI (kusOf al) = some (al.map (·.1)) := by
    intro al
    induction al with
    | nil => rfl
    | cons p al ih =>
      have : kusOf (p :: al) = (.inl p.1, .int p.2) :: kusOf al := rfl
      rw [this]
      simp only [keysI, ih]
      rfl
  have : bSorted [.ref r] μ = .ok (.ref μ.length) (μ ++ [.lst ((sortI (al.map (·.1))).map U.int)]) := by
    unfold bSorted
    simp only [h]
    cases al with
    | nil => rfl
    | cons p al =>
      have e : kusOf (p :: al) = (.inl p.1, .int p.2) :: kusOf al := rfl
      have k1 := ki (p :: al)
      rw [e] at k1 ⊢
      simp only [keysS]
      rw [k1]
      simp only [List.length_map]
      rw [if_pos hl]
  rw [this]; rfl
theorem sortI_len {xs : List Int} : (sortI xs).length = xs.length := (sortI_perm xs).length_eq
structure LawCountS (g : List U → Mem → Res U) : Prop where
  ap : ∀ {M : Mc} {n : Nat} {μ : Mem} {Q : U → Mem → Prop} {E : Str → Mem → Prop}, M.ok → M.L ≤ 200 → M.mv.length ≤ 400 → (M.mv.length ≤ 63 ∨ M.L = 1) → n ≤ 100 → (∀ μ', Fr μ μ' → Q (.int (M.cnt n)) μ') → wpE (g [mU M, .int n] μ) Q E
/-- the weight of the first so many keys -/
def ksum (al : List (Int × Int)) (ks : List Int) (h : Int → Int) : Int := (ks.map fun s => (getA al s).getD 0 * h s).sum
theorem law_count_s {C : Calls} : LawCountS (runDef 7 (b__law_count C)) := by
  constructor
  intro M n μ Q E ok hL hS hB hn q
  obtain ⟨i1, i2, i3⟩ := ini_ok (M := M)
  have few : ∀ al, NdA al → KIn M.mv.length al → (M.L = 1 → al.length ≤ 1) → al.length < 64 := fun al nd kin h => by
    rcases hB with z | z
    · have := nd_len nd kin; omega
    · have := h z; omega
  unfold b__law_count mU
  generalize hR : (sSeq (sFor (iRg1 (fVar 1)) (.one 3) (sSeq (sAsg (.one 4) fD0)
    (sSeq (sFor (iSeq (fCall bSorted (aCons (fVar 2) aNil))) (.one 5) (sFor (iSeq (fOp ixU (fOp ixU (fVar 0) (fC (.int 1))) (fVar 5))) (.one 6) (sIf (tstB (fOp uGe (fVar 6) (fC (.int 0)))) (sStore (fVar 4) (fVar 6) (fOp uAdd (fGet (fVar 4) (fVar 6) (fC (.int 0))) (fOp ixU (fVar 2) (fVar 5)))) sNext)))
    (sAsg (.one 2) (fVar 4)))))
    (sRet (fCall bSum (aCons (fLc (iSeq (fCall bSorted (aCons (fVar 2) aNil))) [5] (.one 5) (tst (fOp ixU (fOp ixU (fVar 0) (fC (.int 2))) (fVar 5))) (fOp ixU (fVar 2) (fVar 5))) aNil)))) = R
  walk_at "go"
  -- the loop, from any first dict
  have main : ∀ μ1, Fr μ μ1 → μ1[μ.length]? = some (.dct (kusOf M.ini)) → wpS (R
      [some (.tup [.int M.L, .tup (M.mv.map rwU), .tup (M.ac.map U.bl)]), some (.int n), some (.ref μ.length), none, none, none, none] μ1) ⟨fun _ μ' => Q .non μ', Q, fun _ _ => False, fun _ _ => False, fun c _ μ' => E c μ'⟩ := by
    intro μ1 f1 c1
    rw [← hR]
    have n62 : okR n = true := by simp [okR]; omega
    walk_at "go"
    refine ⟨n62, ?_⟩
    refine for_rng n (fun i s' μ' => ∃ (x3 x4 x5 x6 : Option U) (rc : Nat) (al : List (Int × Int)), s' = [some (.tup [.int M.L, .tup (M.mv.map rwU), .tup (M.ac.map U.bl)]), some (.int n), some (.ref rc), x3, x4, x5, x6] ∧
      Fr μ μ' ∧ μ'[rc]? = some (.dct (kusOf al)) ∧ NdA al ∧ KIn M.mv.length al ∧ (M.L = 1 → al.length ≤ 1) ∧ ∀ g, wt al g = wt M.ini (M.it i g)) (by simp) (by omega)
      ⟨_, _, _, _, _, M.ini, rfl, f1, c1, i1, i2, fun _ => i3, fun g => rfl⟩ ?_ ?_
    · rintro i0 s' μ2 hi ⟨x3, x4, x5, x6, rc, al, rfl, f2, c2, nd, kin, one, hw⟩
      refine ⟨_, rfl, ?_⟩
      have c2' : (μ2 ++ [Cell.dct []])[rc]? = some (.dct (kusOf al)) := get_snoc_lt c2
      walk_at "go"
      rw [w_sortedK c2' (few al nd kin one)]
      generalize hks : sortI (al.map (·.1)) = ks
      have hp : ks.Perm (al.map (·.1)) := by rw [← hks]; exact sortI_perm _
      have lk : ks.length = al.length := by have := hp.length_eq; simpa using this
      have hal := nd_len nd kin
      have l2 : (μ2 ++ [Cell.dct []]).length = μ2.length + 1 := by simp
      refine ⟨_, listAt_L get_snoc, ?_⟩
      refine for_live (ks.map U.int) (fun i s' μ' => (∃ x5 x6, s' = [some (.tup [.int M.L, .tup (M.mv.map rwU), .tup (M.ac.map U.bl)]), some (.int n), some (.ref rc), some (.int (i0 : Int)), some (.ref μ2.length), x5, x6]) ∧ Fr μ2 μ' ∧ μ'[(μ2 ++ [Cell.dct []]).length]? = some (.lst (ks.map U.int)) ∧
        ∃ al2 : List (Int × Int), μ'[μ2.length]? = some (.dct (kusOf al2)) ∧ NdA al2 ∧ KIn M.mv.length al2 ∧ al2.length ≤ i * M.L ∧ ∀ g, wt al2 g = ksum al (ks.take i) (M.step g)) (by simp; omega)
        ⟨⟨_, _, rfl⟩, (Fr.refl.snoc).snoc, get_snoc, [], get_snoc_lt get_snoc, by simp [NdA], by simp [KIn], by simp, by simp [wt, ksum]⟩ (fun i s' μ' h => h.2.2.1) ?_ ?_
      · rintro a s' μ3 ha ⟨⟨x5, x6, rfl⟩, f3, c3, al2, c4, nd2, kin2, len2, hw2⟩
        simp only [List.length_map] at ha
        refine ⟨_, rfl, ?_⟩
        simp only [List.getElem_map]
        have hmem : ks[a] ∈ al.map (·.1) := hp.mem_iff.mp (List.getElem_mem ha)
        obtain ⟨p, hpm, hpe⟩ := List.mem_map.mp hmem
        obtain ⟨k0, k1⟩ := kin p hpm
        rw [hpe] at k0 k1
        have gs : getA al ks[a] = some p.2 := by rw [← hpe]; exact getA_self nd p hpm
        have hm : ks[a].toNat < M.mv.length := by omega
        obtain ⟨r1, r2⟩ := ok.row _ (List.getElem_mem hm)
        have ix : atI (M.mv.map rwU) ks[a] = some (rwU M.mv[ks[a].toNat]) := by
          rw [atI_toNat k0 (by simpa using hm)]
          simp
        walk_at "go"
        refine ⟨_, ix, ?_⟩
        simp only [rwU]
        have c2'' := f3.at_ _ _ c2
        refine for_seq (fun j s' μ' => (∃ x6, s' = [some (.tup [.int M.L, .tup (M.mv.map rwU), .tup (M.ac.map U.bl)]), some (.int n), some (.ref rc), some (.int (i0 : Int)), some (.ref μ2.length), some (.int ks[a]), x6]) ∧ Fr μ2 μ' ∧ μ'[(μ2 ++ [Cell.dct []]).length]? = some (.lst (ks.map U.int)) ∧
          ∃ al3 : List (Int × Int), μ'[μ2.length]? = some (.dct (kusOf al3)) ∧ NdA al3 ∧ KIn M.mv.length al3 ∧ al3.length ≤ a * M.L + j ∧ ∀ g, wt al3 g = ksum al (ks.take a) (M.step g) + p.2 * rsum (M.mv[ks[a].toNat].take j) g) (by simp; omega)
          ⟨⟨_, rfl⟩, f3, c3, al2, c4, nd2, kin2, len2, fun g => by rw [hw2]; simp [rsum]⟩ ?_ ?_
        · rintro j s' μ4 hj ⟨⟨x6, rfl⟩, f4, c5, al3, c6, nd3, kin3, len3, hw3⟩
          simp only [List.length_map] at hj
          refine ⟨_, rfl, ?_⟩
          simp only [List.getElem_map]
          obtain ⟨t0, t1⟩ := r2 _ (List.getElem_mem hj)
          have hr : ∀ g, rsum (M.mv[ks[a].toNat].take (j + 1)) g = rsum (M.mv[ks[a].toNat].take j) g + (if M.mv[ks[a].toNat][j] = -1 then 0 else g M.mv[ks[a].toNat][j]) := fun g => by
            rw [take_snoc hj]; simp only [rsum, List.map_append, List.sum_append, List.map_cons, List.map_nil, List.sum_cons, List.sum_nil, Int.add_zero]
          walk_at "go"
          split
          · rename_i hge
            refine ⟨⟨_, rd_D c6⟩, _, _, rd_D c6, rfl, ?_⟩
            rw [valU_kus, getD_int, w_ixDI (f4.at_ _ _ c2), valU_kus, gs]
            refine ⟨_, rfl, ?_⟩
            walk_at "go"
            obtain ⟨e, nd4, kin4⟩ := bump (c := p.2) c6 nd3 kin3 (k := M.mv[ks[a].toNat][j]) ⟨hge, t1⟩ hS
            refine ⟨_, e, ⟨_, rfl⟩, f4.put (Nat.le_refl _), get_set_ne c5 (by omega), _, get_set c6, nd4, kin4, ?_, fun g => ?_⟩
            · have := put_len (al := al3) (k := M.mv[ks[a].toNat][j]) (v := (getA al3 M.mv[ks[a].toNat][j]).getD 0 + p.2); omega
            · rw [wt_put nd3, hw3, hr, if_neg (by omega), Int.mul_add]; omega
          · rename_i hge
            refine ⟨⟨_, rfl⟩, f4, c5, al3, c6, nd3, kin3, by omega, fun g => ?_⟩
            rw [hw3, hr, if_pos (by omega), Int.add_zero]
        · rintro s' μ4 ⟨⟨x6, rfl⟩, f4, c5, al3, c6, nd3, kin3, len3, hw3⟩
          rw [List.length_map] at len3 hw3
          rw [List.take_length] at hw3
          refine ⟨⟨_, _, rfl⟩, f4, c5, al3, c6, nd3, kin3, by rw [Nat.add_mul]; omega, fun g => ?_⟩
          rw [hw3, take_snoc ha]
          simp only [ksum, List.map_append, List.sum_append, List.map_cons, List.map_nil, List.sum_cons, List.sum_nil, Int.add_zero, gs, Option.getD_some, Mc.step, List.getD_eq_getElem?_getD, List.getElem?_eq_getElem hm]
      · rintro s' μ3 ⟨⟨x5, x6, rfl⟩, f3, c3, al2, c4, nd2, kin2, len2, hw2⟩
        rw [List.length_map] at len2 hw2
        rw [List.take_length] at hw2
        walk_at "go"
        refine ⟨_, _, _, _, _, al2, rfl, f2.trans f3, c4, nd2, kin2, fun h1 => ?_, fun g => ?_⟩
        · have := one h1
          rw [h1] at len2
          omega
        · rw [hw2]
          show (ks.map fun s => (getA al s).getD 0 * M.step g s).sum = _
          rw [wt_keys nd hp, hw]
          rfl
    · rintro s' μ2 ⟨x3, x4, x5, x6, rc, al, rfl, f2, c2, nd, kin, one, hw⟩
      walk_at "go"
      rw [w_sortedK c2 (few al nd kin one)]
      generalize hks : sortI (al.map (·.1)) = ks
      have hp : ks.Perm (al.map (·.1)) := by rw [← hks]; exact sortI_perm _
      have lk : ks.length = al.length := by have := hp.length_eq; simpa using this
      have hal := nd_len nd kin
      refine ⟨_, listAt_L get_snoc, ?_⟩
      have hfm : ∀ (ks : List Int), intsU (((ks.map U.int).filter (fun u => match u with | .int k => M.end_ k | _ => false)).map (fun u => match u with | .int k => .int ((getA al k).getD 0) | _ => .non)) = some ((ks.filter fun k => M.end_ k).map fun k => (getA al k).getD 0) := by
        intro ks
        induction ks with
        | nil => rfl
        | cons k ks ih =>
          by_cases h : M.end_ k = true
          · simp only [List.map_cons, List.filter_cons, h, if_true, intsU]
            rw [ih]
            rfl
          · simp only [List.map_cons, List.filter_cons, h, if_false]
            simpa using ih
      have hcnt : ((ks.filter fun k => M.end_ k).map fun k => (getA al k).getD 0).sum = M.cnt n := by
        have e : wt al M.accG = M.cnt n := hw _
        rw [← e, ← wt_keys nd hp M.accG]
        clear hfm hks hp lk
        induction ks with
        | nil => rfl
        | cons k ks ih =>
          by_cases h : M.end_ k = true
          · simp only [List.filter_cons, h, if_true, List.map_cons, List.sum_cons, ih, Mc.accG, Int.mul_one]
          · have ek : M.accG k = 0 := by simp [Mc.accG, h]
            simp only [List.filter_cons, h, List.map_cons, List.sum_cons, ek, Int.mul_zero, Int.zero_add]
            exact ih
      have cl := get_snoc (μ := μ2) (c := .lst (ks.map U.int))
      have c2' : (μ2 ++ [Cell.lst (ks.map U.int)])[rc]? = some (.dct (kusOf al)) := get_snoc_lt c2
      refine lc_selL cl (fun u => match u with | .int k => M.end_ k | _ => false) (fun u => match u with | .int k => .int ((getA al k).getD 0) | _ => .non) (by simp; omega) ?_ ?_
      · intro i μ3 hi f3
        simp only [List.length_map] at hi
        refine ⟨_, rfl, ?_⟩
        simp only [List.getElem_map]
        have hmem : ks[i] ∈ al.map (·.1) := hp.mem_iff.mp (List.getElem_mem hi)
        obtain ⟨p, hpm, hpe⟩ := List.mem_map.mp hmem
        obtain ⟨k0, k1⟩ := kin p hpm
        rw [hpe] at k0 k1
        have gs : getA al ks[i] = some p.2 := by rw [← hpe]; exact getA_self nd p hpm
        walk_at "go"
        refine ⟨_, Mc.end_at ok k0 k1, _, tru_b, rfl, .refl, fun _ => ?_⟩
        rw [w_ixDI (f3.at_ _ _ c2'), valU_kus, gs]
        exact ⟨_, rfl, by simp, .refl⟩
      · intro μ3 f3 c3
        rw [w_sumL c3 (hfm ks), hcnt]
        exact q _ ((f2.trans Fr.refl.snoc).trans f3)
  have em : M.mv = [] ↔ ¬ (0 : Int) < (M.mv.map rwU).length := by
    constructor
    · intro e; rw [e]; simp
    · intro e
      cases h : M.mv with
      | nil => rfl
      | cons a b => rw [h] at e; simp at e
  split
  · rename_i h
    have c0 : (μ ++ [Cell.dct []])[μ.length]? = some (.dct (kusOf [])) := get_snoc
    have ne : M.mv ≠ [] := fun e => em.mp e h
    have e : stU (.ref μ.length) (.int 0) (.int 1) (μ ++ [Cell.dct []]) = some ((μ ++ [Cell.dct []]).set μ.length (.dct (kusOf [(0, 1)]))) := by
      rw [stU_DI c0 (by simp [lim, kusOf]), putU_kus]
      rfl
    refine ⟨_, e, ?_⟩
    refine main _ (Fr.refl.snoc.put (Nat.le_refl _)) ?_
    unfold Mc.ini
    rw [if_neg ne]
    exact get_set c0
  · rename_i h
    refine main _ Fr.refl.snoc ?_
    unfold Mc.ini
    rw [if_pos (em.mpr h)]
    exact get_snoc
structure RefS (g : List U → Mem → Res U) : Prop where
  ap : ∀ {u : U} {μ : Mem} {Q : U → Mem → Prop} {E : Str → Mem → Prop}, IsBad u → (∀ μ', Fr μ μ' → Q (.bl true) μ') → wpE (g [u] μ) Q E
theorem refused_s {C : Calls} (h1 : CheckS (C 1)) : RefS (runDef 2 (b__law_refused C)) := by
  constructor
  rintro u μ Q E ⟨L, mv, ac, rfl, m1, m2, m3⟩ q
  unfold b__law_refused
  walk_at "go"
  refine h1.bad m1 m2 m3 fun μ' f => ⟨true, by decide +kernel, ?_⟩
  walk_at "go"
  exact ⟨true, by decide +kernel, true, by decide +kernel, false, by decide +kernel, q μ' f⟩
structure LensS (g : List U → Mem → Res U) : Prop where
  ap : ∀ {M : Mc} {μ : Mem} {Q : U → Mem → Prop} {E : Str → Mem → Prop}, (∀ μ', Fr μ μ' → Q (.bl true) μ') → wpE (g [mU M] μ) Q E
theorem lens_s {C : Calls} (h5 : CountWordsS (C 5)) : LensS (runDef 3 (b__law_lengths C)) := by
  constructor
  intro M μ Q E q
  unfold b__law_lengths
  walk_at "go"
  refine ⟨_, listAt_L get_snoc, ?_⟩
  refine for_live [.int (-1), .int 101, .int 1000] (fun i s' μ' => (∃ x, s' = [some (mU M), some (.int i), x]) ∧ Fr μ μ' ∧ μ'[μ.length]? = some (.lst [.int (-1), .int 101, .int 1000])) (by simp) ⟨⟨_, rfl⟩, Fr.refl.snoc, get_snoc⟩ (fun i s' μ' h => h.2.2) ?_ ?_
  · rintro i s' μ1 hi ⟨⟨x, rfl⟩, f1, c1⟩
    have hv : ∃ n : Int, [U.int (-1), .int 101, .int 1000][i] = .int n ∧ ¬ (0 ≤ n ∧ n ≤ 100) := by
      simp only [List.length_cons, List.length_nil] at hi
      rcases i with _ | _ | _ | i
      · exact ⟨_, rfl, by omega⟩
      · exact ⟨_, rfl, by omega⟩
      · exact ⟨_, rfl, by omega⟩
      · omega
    obtain ⟨n, e, hn⟩ := hv
    refine ⟨_, by rw [e]; rfl, ?_⟩
    walk_at "go"
    refine h5.bad hn fun μ2 f2 => ⟨true, by decide +kernel, ?_⟩
    walk_at "go"
    exact ⟨⟨_, by simp; rfl⟩, f1.trans f2, f2.at_ _ _ c1⟩
  · rintro s' μ1 ⟨⟨x, rfl⟩, f1, c1⟩
    walk_at "go"
    exact q μ1 f1
theorem eq_bl {a : Bool} {μ : Mem} : eqU (.bl a) (.bl a) μ = some true := eq_self rfl (by simp [dp])
theorem isTy_bool : isTy "bool" "bool" = true := by decide
theorem isTy_bi : isTy "bool" "int" = false := by decide
/-- which machine it is -/
def Small (M : Mc) : Prop := M.ok ∧ M.L ≤ 200 ∧ M.mv.length ≤ 400 ∧ (M.mv.length ≤ 63 ∨ M.L = 1)
theorem mod_nat {x m : Int} (h : 0 < m) : ∃ k : Nat, x.fmod m = (k : Int) ∧ (k : Int) < m := by
  obtain ⟨a, b⟩ := Dg.fmod_in (x := x) h
  obtain ⟨k, hk⟩ := Int.eq_ofNat_of_zero_le a
  exact ⟨k, hk, by rw [← hk]; exact b⟩
theorem law_ok {C : Calls} (h1 : CheckS (C 1)) (h2 : AccS (C 2)) (h5 : CountWordsS (C 5)) (h6 : NumsS (C 6)) (h7 : LawMachineS (C 7)) (h8 : RefS (C 8)) (h9 : LawBadS (C 9)) (h10 : AccS (C 10)) (h11 : LawCountS (C 11)) (h12 : LensS (C 12))
    {ns : List Int} (hl : ns.length ≤ 63) : Yes (runDef 8 (b_law C) [.frl (ns.map U.int)] []) := by
  refine Yes.of ?_
  unfold b_law
  generalize hR : (sSeq (sIf (tOr' (tstB (fOp uNotN (fDef 1 (C 1) (aCons (fVar 2) aNil)) (fC .non))) (tNt (tst (fDef 1 (C 8) (aCons (fDef 2 (C 9) (aCons (fVar 2) (aCons (fOp ixU (fVar 1) (fC (.int 4))) aNil))) aNil))))) (sRet (fC (.bl false))) sNext) _) = R
  walk_at "go"
  refine h6.ap hl (by decide) (by decide) fun nums μ1 r n1 n2 f1 hr c1 => ?_
  have hn : nums ≠ [] := by rintro rfl; simp at n1
  have hlen : nums.length = 200 := by omega
  have at_ : ∀ (i : Nat) (h : i < 200), atI (nums.map U.int) (i : Int) = some (.int (nums[i]'(by omega))) := fun i h => by rw [Dg.atI_nat]; simp [hlen, h]
  have pos : ∀ x ∈ nums, 0 ≤ x := fun x hx => (n2 x hx).1
  -- from the machine on
  have rd : ∀ (i : Nat) (h : i < 200) {μ' : Mem} {Q : U → Mem → Prop} {E : Str → Mem → Prop}, μ'[r]? = some (.lst (nums.map U.int)) → Q (.int (nums[i]'(by omega))) μ' → wpE (ixU (.ref r) (.int (i : Int)) μ') Q E := fun i h {μ' Q E} c q => by
    rw [w_ixL c]
    exact ⟨_, at_ i h, q⟩
  have rest : ∀ (M : Mc) (μ2 : Mem), Small M → μ2[r]? = some (.lst (nums.map U.int)) → Dg.wpS (R [some (.frl (ns.map U.int)), some (.ref r), some (mU M), none, none, none, none, none] μ2) ⟨fun _ _ => False, fun u _ => u = .bl true, fun _ _ => False, fun _ _ => False, fun _ _ _ => False⟩ := by
    rintro M μ2 ⟨ok, s1, s2, s3⟩ c2
    rw [← hR]
    have hrow : ∀ r ∈ M.mv, r.length < 1000 := fun r hr => by have := (ok.row r hr).1; omega
    have okm : okM M.L M.mv M.ac := ⟨by omega, s2, ok.ac, List.all_eq_true.mpr fun r hr => by
      obtain ⟨a, b⟩ := ok.row r hr
      unfold okRow
      simp only [Bool.and_eq_true, decide_eq_true_eq, List.all_eq_true]
      exact ⟨by omega, b⟩⟩
    walk_at "go"
    refine h1.good (by omega) hrow okm fun μ3 f3 => ?_
    have c3 := f3.at_ _ _ c2
    refine ⟨false, rfl, ?_⟩
    walk_at "go"
    refine rd 4 (by decide) c3 ?_
    refine h9.ap ok s1 s2 fun u μ4 bad f4 => ?_
    refine h8.ap bad fun μ5 f5 => ⟨_, tru_b, ?_⟩
    walk_at "go"
    have c5 := f5.at_ _ _ (f4.at_ _ _ c3)
    refine for_rng 6 (fun i s' μ' => (∃ x3 x4 x5 x6 x7, s' = [some (.frl (ns.map U.int)), some (.ref r), some (mU M), x3, x4, x5, x6, x7]) ∧ μ'[r]? = some (.lst (nums.map U.int))) rfl (by decide) ⟨⟨_, _, _, _, _, rfl⟩, c5⟩ ?_ ?_
    · rintro i s' μ6 hi ⟨⟨x3, x4, x5, x6, x7, rfl⟩, c6⟩
      refine ⟨_, rfl, ?_⟩
      have hi5 : 5 + i < 200 := by omega
      have e5 : ((5 : Int) + (i : Int)) = ((5 + i : Nat) : Int) := by omega
      generalize hV : nums[5 + i]'(by omega) = V
      have V0 : 0 ≤ V := by rw [← hV]; exact pos _ (List.getElem_mem _)
      have rdV : ∀ {μ' : Mem} {Q : U → Mem → Prop} {E : Str → Mem → Prop}, μ'[r]? = some (.lst (nums.map U.int)) → Q (.int V) μ' → wpE (ixU (.ref r) (.int ((5 : Int) + (i : Int))) μ') Q E := fun {μ' Q E} c q => by
        rw [e5]
        refine rd (5 + i) hi5 c ?_
        rw [hV]
        exact q
      obtain ⟨k, hk, hk2⟩ := mod_nat (x := V) (m := 13) (by decide)
      walk_at "go"
      refine rdV c6 ?_
      simp (config := {decide := true}) only [hk, w_run, w_op, w_isi, Dg.wipeU, w_powI, w_intB, w_sl, w_oNone, w_oSome, w_slT, w_slF, w_ixF, w_lenF, w_abs, w_max2, w_min2, w_fdivI, w_neg, w_andE, w_orE, w_notE, w_chain, w_c, w_var, w_call, w_def, w_anil, w_acons, w_tup, w_lst, w_int, w_intB, w_lenT, w_addI, w_subI, w_modI, w_mulI, w_ltI, w_leI, w_gtI, w_geI, w_eq, w_ne, w_ixT, w_if, w_nt, w_an, w_or, w_all, w_tstB, w_tst, w_app, w_lc, w_for, w_iseqT, w_rg1, w_rev1, w_d0, Dg.eq_str, Dg.eq_int, s_seq, s_next, s_brk, s_cnt, s_expr, s_ret, s_retN, s_if, w_getE, w_items, w_keys, w_fmt, w_js0, w_js, s_asg1, s_store, s_tryAs, s_try, w_isX, s_raise, List.map_cons, List.map_nil, List.cons_append, List.nil_append, List.length_cons, List.length_nil, List.replicate_succ, List.replicate_zero, Nat.add_sub_cancel, Nat.sub_self, Nat.sub_zero, Nat.reduceAdd, Nat.reduceSub, Nat.zero_add, List.set_cons_succ, List.set_cons_zero, List.getElem?_cons_zero, List.getElem?_cons_succ, Option.some.injEq, exists_eq_left', exists_eq_left, exists_eq_right', U.bl.injEq, U.int.injEq, U.ref.injEq, U.str.injEq, atI_0, atI_1, atI_2, atI_3, atI_4, atI_5, if_true, if_false, true_and, and_true, decide_true, decide_false, Bool.not_true, Bool.not_false, reduceCtorEq, ite_true, ite_false, decide_eq_true_eq, Bool.true_eq_false, Bool.false_eq_true]
      refine ⟨by simp [okR]; omega, ?_⟩
      refine lc_mapR k (fun j => .int ((V.fdiv (1 + (j : Int))).fmod ((M.L : Int) + 1))) (by simp) (by omega) (fun j μ7 hj f7 => ⟨_, rfl, ?_⟩) fun μ7 f7 c7 => ?_
      · walk_at "go"
        refine rdV (f7.at_ _ _ c6) ?_
        unfold mU
        walk_at "go"
        exact ⟨⟨by omega, by omega⟩, by omega, .refl⟩
      · have c8 := f7.at_ _ _ c6
        refine rdV c8 ?_
        walk_at "go"
        -- the word
        have main : ∀ (ws : List Int) (rw_ : Nat) (μ8 : Mem) {P : U → Mem → Prop} {E : Str → Mem → Prop}, μ8[rw_]? = some (.lst (ws.map U.int)) → ws.length < 1000 → μ8[r]? = some (.lst (nums.map U.int)) →
            (∀ (b : Bool) (μ9 : Mem), μ9[r]? = some (.lst (nums.map U.int)) → P (.bl b) μ9) →
            wpE (bList [.ref rw_] μ8) (fun u μ1 => wpE (C 2 [mU M, u] μ1) (fun u_2 μ1 => ∃ t, tyU μ1 u_2 = some t ∧ ∃ b, truU μ1 (U.bl (isTy "bool" t)) = some b ∧ if (!b) = true then False else wpE (C 10 [mU M, .ref rw_] μ1) (fun w μ2 => ∃ b, Dg.eqU u_2 w μ2 = some b ∧ if (!b) = true then False else P u_2 μ2) E) E) E := by
          intro ws rw_ μ8 P E hw hl hr hP
          rw [w_listL hw]
          refine h2.ap ok get_snoc (by omega) ?_
          refine ⟨_, ty_B, _, tru_b, ?_⟩
          simp (config := {decide := true}) only [isTy_bool, w_run, w_op, w_isi, Dg.wipeU, w_powI, w_intB, w_sl, w_oNone, w_oSome, w_slT, w_slF, w_ixF, w_lenF, w_abs, w_max2, w_min2, w_fdivI, w_neg, w_andE, w_orE, w_notE, w_chain, w_c, w_var, w_call, w_def, w_anil, w_acons, w_tup, w_lst, w_int, w_intB, w_lenT, w_addI, w_subI, w_modI, w_mulI, w_ltI, w_leI, w_gtI, w_geI, w_eq, w_ne, w_ixT, w_if, w_nt, w_an, w_or, w_all, w_tstB, w_tst, w_app, w_lc, w_for, w_iseqT, w_rg1, w_rev1, w_d0, Dg.eq_str, Dg.eq_int, s_seq, s_next, s_brk, s_cnt, s_expr, s_ret, s_retN, s_if, w_getE, w_items, w_keys, w_fmt, w_js0, w_js, s_asg1, s_store, s_tryAs, s_try, w_isX, s_raise, List.map_cons, List.map_nil, List.cons_append, List.nil_append, List.length_cons, List.length_nil, List.replicate_succ, List.replicate_zero, Nat.add_sub_cancel, Nat.sub_self, Nat.sub_zero, Nat.reduceAdd, Nat.reduceSub, Nat.zero_add, List.set_cons_succ, List.set_cons_zero, List.getElem?_cons_zero, List.getElem?_cons_succ, Option.some.injEq, exists_eq_left', exists_eq_left, exists_eq_right', U.bl.injEq, U.int.injEq, U.ref.injEq, U.str.injEq, atI_0, atI_1, atI_2, atI_3, atI_4, atI_5, if_true, if_false, true_and, and_true, decide_true, decide_false, Bool.not_true, Bool.not_false, reduceCtorEq, ite_true, ite_false, decide_eq_true_eq, Bool.true_eq_false, Bool.false_eq_true]
          refine h10.ap ok (get_snoc_lt hw) (by omega) ?_
          refine ⟨_, eq_bl, ?_⟩
          walk_at "go"
          exact hP _ _ (get_snoc_lt hr)
        have em : (List.range k).map (fun j : Nat => U.int ((V.fdiv (1 + (j : Int))).fmod ((M.L : Int) + 1))) = ((List.range k).map fun j : Nat => (V.fdiv (1 + (j : Int))).fmod ((M.L : Int) + 1)).map U.int := by rw [List.map_map]; rfl
        rw [em] at c7
        generalize hws : ((List.range k).map fun j : Nat => (V.fdiv (1 + (j : Int))).fmod ((M.L : Int) + 1)) = ws at c7
        have hwl : ws.length = k := by rw [← hws]; simp
        split
        · rw [w_addL' (get_snoc_lt c7) get_snoc (by simp [lim]; omega)]
          have ea : ws.map U.int ++ [U.int (-1)] = (ws ++ [-1]).map U.int := by simp
          rw [ea]
          exact main (ws ++ [-1]) _ _ get_snoc (by simp; omega) (get_snoc_lt (get_snoc_lt c8)) fun b μ9 c9 => ⟨⟨_, _, _, _, _, rfl⟩, c9⟩
        · exact main ws _ _ c7 (by omega) c8 fun b μ9 c9 => ⟨⟨_, _, _, _, _, rfl⟩, c9⟩
    · rintro s' μ6 ⟨⟨x3, x4, x5, x6, x7, rfl⟩, c6⟩
      walk_at "go"
      refine rd 11 (by decide) c6 ?_
      walk_at "go"
      refine rd 11 (by decide) c6 ?_
      walk_at "go"
      refine rd 11 (by decide) (get_snoc_lt c6) ?_
      obtain ⟨k9, e9, l9⟩ := mod_nat (x := nums[11]'(by omega)) (m := 9) (by decide)
      obtain ⟨k101, e101, l101⟩ := mod_nat (x := nums[11]'(by omega)) (m := 101) (by decide)
      simp (config := {decide := true}) only [e9, e101, w_run, w_op, w_isi, Dg.wipeU, w_powI, w_intB, w_sl, w_oNone, w_oSome, w_slT, w_slF, w_ixF, w_lenF, w_abs, w_max2, w_min2, w_fdivI, w_neg, w_andE, w_orE, w_notE, w_chain, w_c, w_var, w_call, w_def, w_anil, w_acons, w_tup, w_lst, w_int, w_intB, w_lenT, w_addI, w_subI, w_modI, w_mulI, w_ltI, w_leI, w_gtI, w_geI, w_eq, w_ne, w_ixT, w_if, w_nt, w_an, w_or, w_all, w_tstB, w_tst, w_app, w_lc, w_for, w_iseqT, w_rg1, w_rev1, w_d0, Dg.eq_str, Dg.eq_int, s_seq, s_next, s_brk, s_cnt, s_expr, s_ret, s_retN, s_if, w_getE, w_items, w_keys, w_fmt, w_js0, w_js, s_asg1, s_store, s_tryAs, s_try, w_isX, s_raise, List.map_cons, List.map_nil, List.cons_append, List.nil_append, List.length_cons, List.length_nil, List.replicate_succ, List.replicate_zero, Nat.add_sub_cancel, Nat.sub_self, Nat.sub_zero, Nat.reduceAdd, Nat.reduceSub, Nat.zero_add, List.set_cons_succ, List.set_cons_zero, List.getElem?_cons_zero, List.getElem?_cons_succ, Option.some.injEq, exists_eq_left', exists_eq_left, exists_eq_right', U.bl.injEq, U.int.injEq, U.ref.injEq, U.str.injEq, atI_0, atI_1, atI_2, atI_3, atI_4, atI_5, if_true, if_false, true_and, and_true, decide_true, decide_false, Bool.not_true, Bool.not_false, reduceCtorEq, ite_true, ite_false, decide_eq_true_eq, Bool.true_eq_false, Bool.false_eq_true]
      have fin : ∀ (n : Nat) (μ7 : Mem), n ≤ 100 → wpE (C 5 [mU M, .int n] μ7) (fun u μ1 => ∃ t, tyU μ1 u = some t ∧ ∃ b, truU μ1 (U.bl (isTy "bool" t)) = some b ∧ if b = true then False else wpE (C 11 [mU M, .int n] μ1) (fun w μ2 => ∃ b, Dg.eqU u w μ2 = some b ∧ if (!b) = true then False else wpE (C 12 [mU M] μ2) (fun u μ1 => ∃ b, truU μ1 u = some b ∧ if (!b) = true then False else ∃ b, Dg.eqU (U.ref (List.length μ1)) (U.ref (List.length (μ1 ++ [Cell.lst [U.int 200, U.int 400, U.int 4000, U.int 100]]))) (μ1 ++ [Cell.lst [U.int 200, U.int 400, U.int 4000, U.int 100]] ++ [Cell.lst [U.int 200, U.int 400, U.int 4000, U.int 100]]) = some b ∧ b = true) (fun _ _ => False)) (fun _ _ => False)) (fun _ _ => False) := by
        intro n μ7 hn
        refine h5.good ok s1 s2 hn fun μ8 f8 => ⟨_, ty_I, _, tru_b, ?_⟩
        simp (config := {decide := true}) only [show isTy "bool" "int" = false by decide, w_run, w_op, w_isi, Dg.wipeU, w_powI, w_intB, w_sl, w_oNone, w_oSome, w_slT, w_slF, w_ixF, w_lenF, w_abs, w_max2, w_min2, w_fdivI, w_neg, w_andE, w_orE, w_notE, w_chain, w_c, w_var, w_call, w_def, w_anil, w_acons, w_tup, w_lst, w_int, w_intB, w_lenT, w_addI, w_subI, w_modI, w_mulI, w_ltI, w_leI, w_gtI, w_geI, w_eq, w_ne, w_ixT, w_if, w_nt, w_an, w_or, w_all, w_tstB, w_tst, w_app, w_lc, w_for, w_iseqT, w_rg1, w_rev1, w_d0, Dg.eq_str, Dg.eq_int, s_seq, s_next, s_brk, s_cnt, s_expr, s_ret, s_retN, s_if, w_getE, w_items, w_keys, w_fmt, w_js0, w_js, s_asg1, s_store, s_tryAs, s_try, w_isX, s_raise, List.map_cons, List.map_nil, List.cons_append, List.nil_append, List.length_cons, List.length_nil, List.replicate_succ, List.replicate_zero, Nat.add_sub_cancel, Nat.sub_self, Nat.sub_zero, Nat.reduceAdd, Nat.reduceSub, Nat.zero_add, List.set_cons_succ, List.set_cons_zero, List.getElem?_cons_zero, List.getElem?_cons_succ, Option.some.injEq, exists_eq_left', exists_eq_left, exists_eq_right', U.bl.injEq, U.int.injEq, U.ref.injEq, U.str.injEq, atI_0, atI_1, atI_2, atI_3, atI_4, atI_5, if_true, if_false, true_and, and_true, decide_true, decide_false, Bool.not_true, Bool.not_false, reduceCtorEq, ite_true, ite_false, decide_eq_true_eq, Bool.true_eq_false, Bool.false_eq_true]
        refine h11.ap ok s1 s2 s3 hn fun μ9 f9 => ⟨_, Dg.eq_int, ?_⟩
        walk_at "go"
        refine h12.ap fun μ10 f10 => ⟨_, tru_b, ?_⟩
        walk_at "go"
        exact ⟨_, eq_lists (us := [U.int 200, U.int 400, U.int 4000, U.int 100]) (get_snoc_lt get_snoc) get_snoc (by decide) (by decide), rfl⟩
      have cc := get_snoc (μ := μ6) (c := .lst [U.int k9, U.int k101])
      split
      · unfold mU
        walk_at "go"
        rw [w_ixL cc]
        by_cases h20 : ((M.mv.map rwU).length : Int) < 20
        · rw [if_pos h20]
          exact ⟨_, Dg.atI_1, fin k101 _ (by omega)⟩
        · rw [if_neg h20]
          exact ⟨_, Dg.atI_0, fin k9 _ (by omega)⟩
      · rw [w_ixL cc]
        exact ⟨_, Dg.atI_0, fin k9 _ (by omega)⟩
  obtain ⟨k7, e7, l7⟩ := mod_nat (x := nums[0]'(by omega)) (m := 7) (by decide)
  obtain ⟨k10, e10, l10⟩ := mod_nat (x := nums[1]'(by omega)) (m := 10) (by decide)
  obtain ⟨k12, e12, l12⟩ := mod_nat (x := nums[3]'(by omega)) (m := 12) (by decide)
  obtain ⟨k2, e2, l2⟩ := mod_nat (x := nums[1]'(by omega)) (m := 2) (by decide)
  refine rd 0 (by decide) c1 ?_
  simp (config := {decide := true}) only [e7, w_run, w_op, w_isi, Dg.wipeU, w_powI, w_intB, w_sl, w_oNone, w_oSome, w_slT, w_slF, w_ixF, w_lenF, w_abs, w_max2, w_min2, w_fdivI, w_neg, w_andE, w_orE, w_notE, w_chain, w_c, w_var, w_call, w_def, w_anil, w_acons, w_tup, w_lst, w_int, w_intB, w_lenT, w_addI, w_subI, w_modI, w_mulI, w_ltI, w_leI, w_gtI, w_geI, w_eq, w_ne, w_ixT, w_if, w_nt, w_an, w_or, w_all, w_tstB, w_tst, w_app, w_lc, w_for, w_iseqT, w_rg1, w_rev1, w_d0, Dg.eq_str, Dg.eq_int, s_seq, s_next, s_brk, s_cnt, s_expr, s_ret, s_retN, s_if, w_getE, w_items, w_keys, w_fmt, w_js0, w_js, s_asg1, s_store, s_tryAs, s_try, w_isX, s_raise, List.map_cons, List.map_nil, List.cons_append, List.nil_append, List.length_cons, List.length_nil, List.replicate_succ, List.replicate_zero, Nat.add_sub_cancel, Nat.sub_self, Nat.sub_zero, Nat.reduceAdd, Nat.reduceSub, Nat.zero_add, List.set_cons_succ, List.set_cons_zero, List.getElem?_cons_zero, List.getElem?_cons_succ, Option.some.injEq, exists_eq_left', exists_eq_left, exists_eq_right', U.bl.injEq, U.int.injEq, U.ref.injEq, U.str.injEq, atI_0, atI_1, atI_2, atI_3, atI_4, atI_5, if_true, if_false, true_and, and_true, decide_true, decide_false, Bool.not_true, Bool.not_false, reduceCtorEq, ite_true, ite_false, decide_eq_true_eq, Bool.true_eq_false, Bool.false_eq_true]
  refine rd 1 (by decide) c1 ?_
  simp (config := {decide := true}) only [e10, w_run, w_op, w_isi, Dg.wipeU, w_powI, w_intB, w_sl, w_oNone, w_oSome, w_slT, w_slF, w_ixF, w_lenF, w_abs, w_max2, w_min2, w_fdivI, w_neg, w_andE, w_orE, w_notE, w_chain, w_c, w_var, w_call, w_def, w_anil, w_acons, w_tup, w_lst, w_int, w_intB, w_lenT, w_addI, w_subI, w_modI, w_mulI, w_ltI, w_leI, w_gtI, w_geI, w_eq, w_ne, w_ixT, w_if, w_nt, w_an, w_or, w_all, w_tstB, w_tst, w_app, w_lc, w_for, w_iseqT, w_rg1, w_rev1, w_d0, Dg.eq_str, Dg.eq_int, s_seq, s_next, s_brk, s_cnt, s_expr, s_ret, s_retN, s_if, w_getE, w_items, w_keys, w_fmt, w_js0, w_js, s_asg1, s_store, s_tryAs, s_try, w_isX, s_raise, List.map_cons, List.map_nil, List.cons_append, List.nil_append, List.length_cons, List.length_nil, List.replicate_succ, List.replicate_zero, Nat.add_sub_cancel, Nat.sub_self, Nat.sub_zero, Nat.reduceAdd, Nat.reduceSub, Nat.zero_add, List.set_cons_succ, List.set_cons_zero, List.getElem?_cons_zero, List.getElem?_cons_succ, Option.some.injEq, exists_eq_left', exists_eq_left, exists_eq_right', U.bl.injEq, U.int.injEq, U.ref.injEq, U.str.injEq, atI_0, atI_1, atI_2, atI_3, atI_4, atI_5, if_true, if_false, true_and, and_true, decide_true, decide_false, Bool.not_true, Bool.not_false, reduceCtorEq, ite_true, ite_false, decide_eq_true_eq, Bool.true_eq_false, Bool.false_eq_true]
  refine rd 2 (by decide) c1 ?_
  walk_at "go"
  refine h7.ap c1 hn pos (by omega) (by omega) fun M μ2 ok e1' e2' f2 => ?_
  have c2 := f2.at_ _ _ c1
  refine rd 3 (by decide) c2 ?_
  simp (config := {decide := true}) only [e12, w_run, w_op, w_isi, Dg.wipeU, w_powI, w_intB, w_sl, w_oNone, w_oSome, w_slT, w_slF, w_ixF, w_lenF, w_abs, w_max2, w_min2, w_fdivI, w_neg, w_andE, w_orE, w_notE, w_chain, w_c, w_var, w_call, w_def, w_anil, w_acons, w_tup, w_lst, w_int, w_intB, w_lenT, w_addI, w_subI, w_modI, w_mulI, w_ltI, w_leI, w_gtI, w_geI, w_eq, w_ne, w_ixT, w_if, w_nt, w_an, w_or, w_all, w_tstB, w_tst, w_app, w_lc, w_for, w_iseqT, w_rg1, w_rev1, w_d0, Dg.eq_str, Dg.eq_int, s_seq, s_next, s_brk, s_cnt, s_expr, s_ret, s_retN, s_if, w_getE, w_items, w_keys, w_fmt, w_js0, w_js, s_asg1, s_store, s_tryAs, s_try, w_isX, s_raise, List.map_cons, List.map_nil, List.cons_append, List.nil_append, List.length_cons, List.length_nil, List.replicate_succ, List.replicate_zero, Nat.add_sub_cancel, Nat.sub_self, Nat.sub_zero, Nat.reduceAdd, Nat.reduceSub, Nat.zero_add, List.set_cons_succ, List.set_cons_zero, List.getElem?_cons_zero, List.getElem?_cons_succ, Option.some.injEq, exists_eq_left', exists_eq_left, exists_eq_right', U.bl.injEq, U.int.injEq, U.ref.injEq, U.str.injEq, atI_0, atI_1, atI_2, atI_3, atI_4, atI_5, if_true, if_false, true_and, and_true, decide_true, decide_false, Bool.not_true, Bool.not_false, reduceCtorEq, ite_true, ite_false, decide_eq_true_eq, Bool.true_eq_false, Bool.false_eq_true]
  split
  · refine rd 1 (by decide) c2 ?_
    simp (config := {decide := true}) only [e2, w_run, w_op, w_isi, Dg.wipeU, w_powI, w_intB, w_sl, w_oNone, w_oSome, w_slT, w_slF, w_ixF, w_lenF, w_abs, w_max2, w_min2, w_fdivI, w_neg, w_andE, w_orE, w_notE, w_chain, w_c, w_var, w_call, w_def, w_anil, w_acons, w_tup, w_lst, w_int, w_intB, w_lenT, w_addI, w_subI, w_modI, w_mulI, w_ltI, w_leI, w_gtI, w_geI, w_eq, w_ne, w_ixT, w_if, w_nt, w_an, w_or, w_all, w_tstB, w_tst, w_app, w_lc, w_for, w_iseqT, w_rg1, w_rev1, w_d0, Dg.eq_str, Dg.eq_int, s_seq, s_next, s_brk, s_cnt, s_expr, s_ret, s_retN, s_if, w_getE, w_items, w_keys, w_fmt, w_js0, w_js, s_asg1, s_store, s_tryAs, s_try, w_isX, s_raise, List.map_cons, List.map_nil, List.cons_append, List.nil_append, List.length_cons, List.length_nil, List.replicate_succ, List.replicate_zero, Nat.add_sub_cancel, Nat.sub_self, Nat.sub_zero, Nat.reduceAdd, Nat.reduceSub, Nat.zero_add, List.set_cons_succ, List.set_cons_zero, List.getElem?_cons_zero, List.getElem?_cons_succ, Option.some.injEq, exists_eq_left', exists_eq_left, exists_eq_right', U.bl.injEq, U.int.injEq, U.ref.injEq, U.str.injEq, atI_0, atI_1, atI_2, atI_3, atI_4, atI_5, if_true, if_false, true_and, and_true, decide_true, decide_false, Bool.not_true, Bool.not_false, reduceCtorEq, ite_true, ite_false, decide_eq_true_eq, Bool.true_eq_false, Bool.false_eq_true]
    have e399 : (399 : Int) + (k2 : Int) = ((399 + k2 : Nat) : Int) := by omega
    rw [e399]
    refine h7.ap (L := 1) c2 hn pos (by omega) (by omega) fun M μ3 ok e1' e2' f3 => ?_
    have c3 := f3.at_ _ _ c2
    refine rd 3 (by decide) c3 ?_
    simp (config := {decide := true}) only [e12, w_run, w_op, w_isi, Dg.wipeU, w_powI, w_intB, w_sl, w_oNone, w_oSome, w_slT, w_slF, w_ixF, w_lenF, w_abs, w_max2, w_min2, w_fdivI, w_neg, w_andE, w_orE, w_notE, w_chain, w_c, w_var, w_call, w_def, w_anil, w_acons, w_tup, w_lst, w_int, w_intB, w_lenT, w_addI, w_subI, w_modI, w_mulI, w_ltI, w_leI, w_gtI, w_geI, w_eq, w_ne, w_ixT, w_if, w_nt, w_an, w_or, w_all, w_tstB, w_tst, w_app, w_lc, w_for, w_iseqT, w_rg1, w_rev1, w_d0, Dg.eq_str, Dg.eq_int, s_seq, s_next, s_brk, s_cnt, s_expr, s_ret, s_retN, s_if, w_getE, w_items, w_keys, w_fmt, w_js0, w_js, s_asg1, s_store, s_tryAs, s_try, w_isX, s_raise, List.map_cons, List.map_nil, List.cons_append, List.nil_append, List.length_cons, List.length_nil, List.replicate_succ, List.replicate_zero, Nat.add_sub_cancel, Nat.sub_self, Nat.sub_zero, Nat.reduceAdd, Nat.reduceSub, Nat.zero_add, List.set_cons_succ, List.set_cons_zero, List.getElem?_cons_zero, List.getElem?_cons_succ, Option.some.injEq, exists_eq_left', exists_eq_left, exists_eq_right', U.bl.injEq, U.int.injEq, U.ref.injEq, U.str.injEq, atI_0, atI_1, atI_2, atI_3, atI_4, atI_5, if_true, if_false, true_and, and_true, decide_true, decide_false, Bool.not_true, Bool.not_false, reduceCtorEq, ite_true, ite_false, decide_eq_true_eq, Bool.true_eq_false, Bool.false_eq_true]
    split
    · omega
    · exact rest M μ3 ⟨ok, by omega, by omega, .inr e1'⟩ c3
  · refine rd 3 (by decide) c2 ?_
    simp (config := {decide := true}) only [e12, w_run, w_op, w_isi, Dg.wipeU, w_powI, w_intB, w_sl, w_oNone, w_oSome, w_slT, w_slF, w_ixF, w_lenF, w_abs, w_max2, w_min2, w_fdivI, w_neg, w_andE, w_orE, w_notE, w_chain, w_c, w_var, w_call, w_def, w_anil, w_acons, w_tup, w_lst, w_int, w_intB, w_lenT, w_addI, w_subI, w_modI, w_mulI, w_ltI, w_leI, w_gtI, w_geI, w_eq, w_ne, w_ixT, w_if, w_nt, w_an, w_or, w_all, w_tstB, w_tst, w_app, w_lc, w_for, w_iseqT, w_rg1, w_rev1, w_d0, Dg.eq_str, Dg.eq_int, s_seq, s_next, s_brk, s_cnt, s_expr, s_ret, s_retN, s_if, w_getE, w_items, w_keys, w_fmt, w_js0, w_js, s_asg1, s_store, s_tryAs, s_try, w_isX, s_raise, List.map_cons, List.map_nil, List.cons_append, List.nil_append, List.length_cons, List.length_nil, List.replicate_succ, List.replicate_zero, Nat.add_sub_cancel, Nat.sub_self, Nat.sub_zero, Nat.reduceAdd, Nat.reduceSub, Nat.zero_add, List.set_cons_succ, List.set_cons_zero, List.getElem?_cons_zero, List.getElem?_cons_succ, Option.some.injEq, exists_eq_left', exists_eq_left, exists_eq_right', U.bl.injEq, U.int.injEq, U.ref.injEq, U.str.injEq, atI_0, atI_1, atI_2, atI_3, atI_4, atI_5, if_true, if_false, true_and, and_true, decide_true, decide_false, Bool.not_true, Bool.not_false, reduceCtorEq, ite_true, ite_false, decide_eq_true_eq, Bool.true_eq_false, Bool.false_eq_true]
    split
    · refine rd 1 (by decide) c2 ?_
      simp (config := {decide := true}) only [e2, w_run, w_op, w_isi, Dg.wipeU, w_powI, w_intB, w_sl, w_oNone, w_oSome, w_slT, w_slF, w_ixF, w_lenF, w_abs, w_max2, w_min2, w_fdivI, w_neg, w_andE, w_orE, w_notE, w_chain, w_c, w_var, w_call, w_def, w_anil, w_acons, w_tup, w_lst, w_int, w_intB, w_lenT, w_addI, w_subI, w_modI, w_mulI, w_ltI, w_leI, w_gtI, w_geI, w_eq, w_ne, w_ixT, w_if, w_nt, w_an, w_or, w_all, w_tstB, w_tst, w_app, w_lc, w_for, w_iseqT, w_rg1, w_rev1, w_d0, Dg.eq_str, Dg.eq_int, s_seq, s_next, s_brk, s_cnt, s_expr, s_ret, s_retN, s_if, w_getE, w_items, w_keys, w_fmt, w_js0, w_js, s_asg1, s_store, s_tryAs, s_try, w_isX, s_raise, List.map_cons, List.map_nil, List.cons_append, List.nil_append, List.length_cons, List.length_nil, List.replicate_succ, List.replicate_zero, Nat.add_sub_cancel, Nat.sub_self, Nat.sub_zero, Nat.reduceAdd, Nat.reduceSub, Nat.zero_add, List.set_cons_succ, List.set_cons_zero, List.getElem?_cons_zero, List.getElem?_cons_succ, Option.some.injEq, exists_eq_left', exists_eq_left, exists_eq_right', U.bl.injEq, U.int.injEq, U.ref.injEq, U.str.injEq, atI_0, atI_1, atI_2, atI_3, atI_4, atI_5, if_true, if_false, true_and, and_true, decide_true, decide_false, Bool.not_true, Bool.not_false, reduceCtorEq, ite_true, ite_false, decide_eq_true_eq, Bool.true_eq_false, Bool.false_eq_true]
      have e199 : (199 : Int) + (k2 : Int) = ((199 + k2 : Nat) : Int) := by omega
      rw [e199]
      refine h7.ap (S := 2) c2 hn pos (by omega) (by omega) fun M μ3 ok e1' e2' f3 => ?_
      exact rest M μ3 ⟨ok, by omega, by omega, .inl (by omega)⟩ (f3.at_ _ _ c2)
    · exact rest M μ2 ⟨ok, by omega, by omega, .inl (by omega)⟩ c2
theorem are_t (k : Nat) : AreS (call (k + 1) 0) := by rw [call_are_moves]; exact are_s
theorem check_t (k : Nat) : CheckS (call (k + 2) 1) := by rw [call_check_machine]; exact check_s (are_t k)
theorem acc_t (k : Nat) : AccS (call (k + 1) 2) := by rw [call_accepts]; exact accepts_s
theorem ways_t (k S : Nat) (h : S ≤ 400) : WaysS S (call (k + 1) 3) := by rw [call_ways_of]; exact ways_s h
theorem counts_t (k S : Nat) (h : S ≤ 400) : CountsS S (call (k + 1) 4) := by rw [call_counts_behind]; exact counts_s h
theorem cw_t (k : Nat) : CountWordsS (call (k + 2) 5) := by rw [call_count_words]; exact count_words_s (fun S h => ways_t k S h) (fun S h => counts_t k S h)
theorem nums_t (k : Nat) : NumsS (call (k + 1) 6) := by rw [call__law_numbers]; exact nums_s
theorem lm_t (k : Nat) : LawMachineS (call (k + 1) 7) := by rw [call__law_machine]; exact law_machine_s
theorem ref_t (k : Nat) : RefS (call (k + 3) 8) := by rw [call__law_refused]; exact refused_s (check_t k)
theorem bad_t (k : Nat) : LawBadS (call (k + 1) 9) := by rw [call__law_bad]; exact law_bad_s
theorem lacc_t (k : Nat) : AccS (call (k + 1) 10) := by rw [call__law_accepts]; exact law_accepts_s
theorem lc_t (k : Nat) : LawCountS (call (k + 1) 11) := by rw [call__law_count]; exact law_count_s
theorem lens_t (k : Nat) : LensS (call (k + 3) 12) := by rw [call__law_lengths]; exact lens_s (cw_t k)
theorem law_t (k : Nat) {ns : List Int} (h : ns.length ≤ 63) : Yes (call (k + 4) 13 [.frl (ns.map U.int)] []) := by
  rw [call_law]
  exact law_ok (check_t (k + 1)) (acc_t (k + 2)) (cw_t (k + 1)) (nums_t (k + 2)) (lm_t (k + 2)) (ref_t k) (bad_t (k + 2)) (lacc_t (k + 2)) (lc_t (k + 2)) (lens_t k) h
theorem law_true (ns : List Int) (h : ns.length ≤ 63) : ∃ μ, call 190 13 [.frl (ns.map U.int)] [] = .ok (.bl true) μ := (law_t 186 h).ap
end Lw
open PySem PySem.W PySem.Calls PyProof.Rows
set_option maxRecDepth 100000 in
set_option maxHeartbeats 0 in
theorem PySem.Challenge.cw_doppelganger_k26_machines_checked_holds : PySem.Challenge.rw_doppelganger_k26_machines_checked.Holds := by
  w_on; o_law
  refine HandSHeadRun.head_any (r := OpenLaw.row PySem.Challenge.rw_doppelganger_k26_machines_checked) (q := view (OpenLaw.row PySem.Challenge.rw_doppelganger_k26_machines_checked).prog [23]) (H := Lw.hk) (ob := Lw.ob) (M := 4000) (loose := Lw.hloose) (d := HandSHeadRun.topDef (OpenLaw.row PySem.Challenge.rw_doppelganger_k26_machines_checked).prog 23) (kwd := []) Lw.ob_eq
    (by kernel_rfl) (fun s => by kernel_rfl) Lw.run (by kernel_rfl) (by kernel_rfl) (by kernel_rfl) (by rfl) (by first | assumption | decide +kernel) (by decide +kernel) ⟨rfl, rfl, rfl, rfl, rfl, by decide +kernel⟩ ?hw ?hc
  case hw => w_witness2
  case hc =>
    refine Dg.walk_dg (l := PySem.Challenge.rw_doppelganger_k26_machines_checked) (n := 63) (k := 190 + 40) (x := "script") (CX := fun w => L2.CX (PySem.Challenge.rw_doppelganger_k26_machines_checked).prog w) rfl (by decide) (by kernel_rfl) ⟨rfl, by decide, by decide⟩ (fun w H s e s2 z => Dg.cx_none H s e s2 z) ?F
    intro w mg fa h Y G hmg0
    obtain ⟨K, KX, c⟩ := Y
    have hmg : mg ("law" : PySem.Str) = some (.ref fa) := by
      have e : (HandSHeadRun.topDef (OpenLaw.row PySem.Challenge.rw_doppelganger_k26_machines_checked).prog 23).name = ("law" : PySem.Str) := by kernel_rfl
      rw [← e]
      exact hmg0
    obtain ⟨fd, Fx⟩ := Lw.facts (w := w) KX G c
    have ea := hmg.symm.trans Fx.m13
    cases ea
    exact ⟨K, fd 13, Dg.spF K mg 1 (Lw.call 190 13), KX, fun s v => L2.FunD.bindsA (ps := ["script"]) Fx.F13 (fun _ _ _ _ _ _ us hl => match us, hl with | [_], _ => rfl) s [v] rfl, fun H a ns hl ho hS => Dg.end_of (Lw.law_true ns hl) ho hS, fun base _ _ => (Lw.tab Fx 190).G13⟩

