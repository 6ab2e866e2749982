import PyProof.Rows.All
import Wide.All
import OpenK.AllK
import Wide.FinOn
import HandS.ForMost
import HandS.SortKw
import KE.DataMinMax
import HandS.TupAny
import KE.DataCmp
import KE.KDictDisplayH
import HandS.Deep
import HandS.SortInts
import HandS.Style
import HandS.TupLe
import HandS.More
import KE.KAssignIn
import HandS.SetFor
import HandS.RevRange
import HandS.Strs
import HandS.AnyAll
import PySem.Challenge.RW_slabwarren_k02_woven_stacks
set_option Elab.async false
set_option linter.all false
set_option maxRecDepth 100000
/-! Dicts whose keys are tuples that may also stand in the module's own (written) part: kept as an object told by what is true of it. -/
namespace Sy
open PySem L2 PySem.Spec PyProof.Rows
abbrev XE := List Key × Addr × V
abbrev kdOf (P : Program) (w : World) := tupleKind (mixKind P w)
/-- the entries, in the model's values -/
def XV : List XE → List (List Key × Addr × Value) → Prop := Paired fun p q => p.1 = q.1 ∧ p.2.1 = q.2.1 ∧ RelV p.2.2 q.2.2
/-- the object at a is a dict of these entries -/
def XD (P : Program) (w : World) (a : Addr) (xs : List XE) (h : Heap) : Prop :=
  xs.length ≤ sizeLine ∧ (a == sysModules) = false ∧ ∃ vs o es ep, XV xs vs ∧ h.get? a = some o ∧ o.ExactDict ∧ o.data = .dict es ep ∧ es.toList = vs.map (entryOfKey (kdOf P w)) ∧ (vs.map (·.1)).Nodup
/-- a key's tuple: tracked, or the module's own -/
def KeyAt (K : PySem.W.Frag) (H : Hp) (ks : List Key) (b : Addr) : Prop := H b = some (.tup (ks.map kV)) ∨ SqT K (fun _ => none) b (ks.map kV)
def KeysAt (K : PySem.W.Frag) (H : Hp) (xs : List XE) : Prop := ∀ x ∈ xs, KeyAt K H x.1 x.2.1
abbrev xdO (P : Program) (w : World) (a : Addr) (xs : List XE) : HO := .ext (XD P w a xs)
theorem XD.stable {P : Program} {w : World} {a : Addr} {xs : List XE} : ∀ h1 h2 : Heap, XD P w a xs h1 → (∀ o, h1.get? a = some o → h2.get? a = some o) → XD P w a xs h2 := by
  rintro h1 h2 ⟨l, y, vs, o, es, ep, r, e, c⟩ k
  exact ⟨l, y, vs, o, es, ep, r, k _ e, c⟩
theorem xd_ok {P : Program} {w : World} {H : Hp} {h : Heap} {a : Addr} {xs : List XE} (x : XD P w a xs h) : ObjOk P w H h a (xdO P w a xs) := by
  refine ⟨x, ?_, XD.stable⟩
  obtain ⟨_, _, _, o, _, _, _, e, _⟩ := x
  exact ⟨o, e⟩
theorem Rd.xd {P : Program} {w : World} {H : Hp} {h : Heap} {a : Addr} {xs : List XE} (ok : HOk P w H h) (e : Rd H a (xdO P w a xs)) : XD P w a xs h := (e.ok ok).1
def valX (xs : List XE) (k : List Key) : Option V := (xs.find? fun x => decide (x.1 = k)).map (·.2.2)
def putX (xs : List XE) (k : List Key) (b : Addr) (v : V) : List XE := if (xs.any fun x => decide (x.1 = k)) = true then xs.map (fun x => if x.1 = k then (x.1, x.2.1, v) else x) else xs ++ [(k, b, v)]
theorem putX_len {xs : List XE} {k : List Key} {b : Addr} {v : V} : (putX xs k b v).length ≤ xs.length + 1 := by
  unfold putX
  split
  · rw [List.length_map]; omega
  · rw [List.length_append]; exact Nat.le_refl _
theorem XV.val {k : List Key} : ∀ {xs : List XE} {vs : List (List Key × Addr × Value)}, XV xs vs → RelO (valX xs k) ((atKey vs k).map (·.2))
  | _, _, .nil => True.intro
  | _, _, .cons (a := p) (b := q) h t => by
    obtain ⟨h1, h2, h3⟩ := h
    have ih := XV.val (k := k) t
    unfold valX atKey at ih ⊢
    by_cases e : p.1 = k
    · have e' : q.1 = k := h1.symm.trans e
      simp only [List.find?_cons, e, e', decide_true, Option.map_some]
      exact h3
    · have e' : ¬ q.1 = k := fun z => e (h1.trans z)
      simp only [List.find?_cons, e, e', decide_false]
      exact ih
theorem XV.any {k : List Key} : ∀ {xs : List XE} {vs : List (List Key × Addr × Value)}, XV xs vs → (xs.any fun x => decide (x.1 = k)) = (atKey vs k).isSome
  | _, _, .nil => rfl
  | _, _, .cons (a := p) (b := q) h t => by
    obtain ⟨h1, h2, h3⟩ := h
    have ih := XV.any (k := k) t
    unfold atKey at ih ⊢
    rw [List.any_cons, ih]
    by_cases e : p.1 = k
    · have e' : q.1 = k := h1.symm.trans e
      simp [List.find?_cons, e, e']
    · have e' : ¬ q.1 = k := fun z => e (h1.trans z)
      simp [List.find?_cons, e, e']
theorem XV.repl {k : List Key} {v : V} {u : Value} (r : RelV v u) : ∀ {xs : List XE} {vs : List (List Key × Addr × Value)}, XV xs vs → XV (xs.map fun x => if x.1 = k then (x.1, x.2.1, v) else x) (vs.map (putAt k u))
  | _, _, .nil => .nil
  | _, _, .cons (a := p) (b := q) h t => by
    rw [List.map_cons, List.map_cons]
    refine .cons ?_ (XV.repl r t)
    obtain ⟨h1, h2, h3⟩ := h
    unfold putAt
    by_cases e : p.1 = k
    · rw [if_pos e, if_pos (h1.symm.trans e)]; exact ⟨h1, h2, r⟩
    · rw [if_neg e, if_neg (fun z => e (h1.trans z))]; exact ⟨h1, h2, h3⟩
theorem XV.put {k : List Key} {b : Addr} {v : V} {u : Value} {xs : List XE} {vs : List (List Key × Addr × Value)} (h : XV xs vs) (r : RelV v u) : XV (putX xs k b v) (storedH vs k b u) := by
  unfold putX storedH
  rw [h.any]
  by_cases q : (atKey vs k).isSome = true
  · rw [if_pos q, if_pos q]; exact XV.repl r h
  · rw [if_neg q, if_neg q]; exact Paired.snoc h ⟨rfl, rfl, r⟩
section
variable {X : Cx} {pins : List (Addr × Obj)} {σ : L2.St} {H : Hp} {s : Shared} {a b : Addr} {xs : List XE} {k : List Key} {v : V} {A : Around} {E : Value → Shared → Prop}
theorem key_is (I : Inv X pins σ H s) (h : KeyAt X.K H k b) : (kdOf X.prog X.w).is s.heap k b := by
  rcases h with h | h
  · exact key_of I.hok h
  · rcases h with h | ⟨o, its, n, h1, h2, h3, h4, h5⟩
    · rcases h with h | ⟨_, h⟩ <;> cases h
    · exact ⟨o, its, n, I.kIn b o h1, h2, h3, items_are h5⟩
/-- the model's dict -/
theorem x_dict (I : Inv X pins σ H s) (e : Rd H a (xdO X.prog X.w a xs)) (hk : KeysAt X.K H xs) : (a == sysModules) = false ∧ xs.length ≤ sizeLine ∧ ∃ vs, XV xs vs ∧ s.heap.DictOfH (kdOf X.prog X.w) a vs := by
  obtain ⟨l, y, vs, o, es, ep, r, h1, h2, h3, h4, h5⟩ := Rd.xd I.hok e
  refine ⟨y, l, vs, r, o, es, ep, h1, h2, h3, h4, ?_, h5⟩
  have all : ∀ {xs : List XE} {vs : List (List Key × Addr × Value)}, XV xs vs → KeysAt X.K H xs → ∀ x ∈ vs, (kdOf X.prog X.w).is s.heap x.1 x.2.1 := by
    intro xs vs r
    induction r with
    | nil => intro _ x hx; exact nomatch hx
    | cons h t ih =>
      intro hk x hx
      rcases List.mem_cons.mp hx with rfl | hx
      · rw [← h.1, ← h.2.1]
        exact key_is I (hk _ List.mem_cons_self)
      · exact ih (fun y hy => hk y (List.mem_cons_of_mem _ hy)) x hx
  exact all r hk
/-- what such a dict holds at a key -/
def XGet (X : Cx) (H : Hp) (a : Addr) (y : V) (r : Option V) : Prop := ∃ xs k b, Rd H a (xdO X.prog X.w a xs) ∧ KeysAt X.K H xs ∧ y = .ref b ∧ KeyAt X.K H k b ∧ r = valX xs k
def XPut (X : Cx) (H : Hp) (a : Addr) (y v : V) (H' : Hp) : Prop := ∃ xs k b, H a = some (xdO X.prog X.w a xs) ∧ KeysAt X.K H xs ∧ y = .ref b ∧ KeyAt X.K H k b ∧ xs.length < sizeLine ∧ H' = upd H a (xdO X.prog X.w a (putX xs k b v))
def IsX (X : Cx) (H : Hp) (a : Addr) : Prop := ∃ xs, Rd H a (xdO X.prog X.w a xs) ∧ KeysAt X.K H xs
variable {y : V} {u r : Value} {o : Option V}
theorem x_type (I : Inv X pins σ H s) (d : IsX X H a) : s.TypeIs (.ref a) "dict" ∧ (∀ b, Value.ref a = .ref b → ∃ ob, s.heap.get? b = some ob ∧ ob.dict = none) ∧ (a == sysModules) = false := by
  obtain ⟨xs, e, hk⟩ := d
  obtain ⟨hd, z, vs, rel, dd⟩ := x_dict I e hk
  refine ⟨dd.typeIs, fun b q => ?_, hd⟩
  cases q
  obtain ⟨ob, _, _, h1, h2, _⟩ := dd
  exact ⟨ob, h1, h2.2.1⟩
theorem x_getItem {Q : Value → Shared → Prop} (hu : A.units + 1 < cLine) (I : Inv X pins σ H s) (g : XGet X H a y (some v)) (ry : RelV y u) (h : ∀ w' s', Inv X pins σ H s' → RelV v w' → Q w' s') :
    wpAny (model X.prog X.w) A (getItem (.ref a) u) Q E s := by
  obtain ⟨xs, k, b, e, hk, rfl, kb, l⟩ := g
  cases (show u = Value.ref b from ry)
  obtain ⟨hd, z, vs, rel, dd⟩ := x_dict I e hk
  obtain ⟨w', hw, rw'⟩ := RelO.some_of (v := v) (o := (atKey vs k).map (·.2)) (by rw [l]; exact rel.val)
  obtain ⟨p, hp, hp2⟩ := Option.map_eq_some_iff.mp hw
  refine wpAny_getItem_heap (tupleKind_room_in1 hu) (key_is I kb) dd hp ?_
  rw [hp2]
  exact h w' _ (I.tok _) rw'
theorem x_in {Q : Value → Shared → Prop} (hu : A.units + 1 < cLine) (I : Inv X pins σ H s) (g : XGet X H a y o) (ry : RelV y u) (h : ∀ s', Inv X pins σ H s' → Q (.bool o.isSome) s') :
    wpAny (model X.prog X.w) A (compareOp .In u (.ref a)) Q E s := by
  obtain ⟨xs, k, b, e, hk, rfl, kb, l⟩ := g
  cases (show u = Value.ref b from ry)
  obtain ⟨hd, z, vs, rel, dd⟩ := x_dict I e hk
  refine wpAny_in_heap (tupleKind_room_in1 hu) (key_is I kb) hd dd ?_
  have q := (rel.val (k := k)).isSome_eq
  rw [Option.isSome_map] at q
  rw [← q, ← l]
  exact h _ (I.tok _)
theorem x_notIn {Q : Value → Shared → Prop} (hu : A.units + 1 < cLine) (I : Inv X pins σ H s) (g : XGet X H a y o) (ry : RelV y u) (h : ∀ s', Inv X pins σ H s' → Q (.bool (!o.isSome)) s') :
    wpAny (model X.prog X.w) A (compareOp .NotIn u (.ref a)) Q E s := by
  obtain ⟨xs, k, b, e, hk, rfl, kb, l⟩ := g
  cases (show u = Value.ref b from ry)
  obtain ⟨hd, z, vs, rel, dd⟩ := x_dict I e hk
  refine wpAny_notIn_heap (tupleKind_room_in1 hu) (key_is I kb) hd dd ?_
  have q := (rel.val (k := k)).isSome_eq
  rw [Option.isSome_map] at q
  rw [← q, ← l]
  exact h _ (I.tok _)
theorem x_setItem {H' : Hp} {Q : Unit → Shared → Prop} (hu : A.units + 1 < cLine) (I : Inv X pins σ H s) (g : XPut X H a y v H') (ry : RelV y u) (rv : RelV v r) (h : ∀ s', Inv X pins σ H' s' → Q () s') :
    wpAny (model X.prog X.w) A (setItem (.ref a) u r) Q E s := by
  obtain ⟨xs, k, b, e, hk, rfl, kb, l, rfl⟩ := g
  cases (show u = Value.ref b from ry)
  obtain ⟨hd, z, vs, rel, dd⟩ := x_dict I (.inl e) hk
  have hz : vs.length ≤ sizeLine := by rw [← Paired.length rel]; exact z
  have hl : (putX xs k b v).length ≤ sizeLine := by have := putX_len (xs := xs) (k := k) (b := b) (v := v); omega
  refine wpAny_setItem_heap (hsz := hz) (tupleKind_room_in1 hu) (key_is I kb) dd fun h' dd' hs => h _ ?_
  obtain ⟨q, es, ep, hq, h2, h3, h4, _, h5⟩ := dd'
  exact d_write I (by rw [e]; exact True.intro) hs ⟨q, hq⟩ (xd_ok ⟨hl, hd, _, q, es, ep, rel.put rv, hq, h2, h3, h4, h5⟩)
theorem x_get1 {Q : Value → Shared → Prop} (hu : A.units + 1 < cLine) (I : Inv X pins σ H s) (g : XGet X H a y o) (ry : RelV y u) (h : ∀ w' s', Inv X pins σ H s' → RelV (o.getD .non) w' → Q w' s') :
    wpAny (model X.prog X.w) A (call (.builtin "dict.get") [.ref a, u]) Q E s := by
  obtain ⟨xs, k, b, e, hk, rfl, kb, l⟩ := g
  cases (show u = Value.ref b from ry)
  obtain ⟨hd, z, vs, rel, dd⟩ := x_dict I e hk
  refine call_meetsIn PySem.F.slot_dict_get dd.typeIs PySem.F.entry_dict_get (PySem.F.args_dict_get_2 _ _) (meetsH_dict_get (kdOf X.prog X.w) a b hd) ⟨tupleKind_room_in1 hu, k, vs, key_is I kb, dd, h _ _ (I.tok _) ?_⟩
  rw [l]
  exact (rel.val (k := k)).getD rfl
theorem x_get2 {d : V} {Q : Value → Shared → Prop} (hu : A.units + 1 < cLine) (I : Inv X pins σ H s) (g : XGet X H a y o) (ry : RelV y u) (rd : RelV d r) (h : ∀ w' s', Inv X pins σ H s' → RelV (o.getD d) w' → Q w' s') :
    wpAny (model X.prog X.w) A (call (.builtin "dict.get") [.ref a, u, r]) Q E s := by
  obtain ⟨xs, k, b, e, hk, rfl, kb, l⟩ := g
  cases (show u = Value.ref b from ry)
  obtain ⟨hd, z, vs, rel, dd⟩ := x_dict I e hk
  refine call_meetsIn PySem.F.slot_dict_get dd.typeIs PySem.F.entry_dict_get (PySem.F.args_dict_get_3 _ _ _) (meetsH_dict_get_default (kdOf X.prog X.w) a b hd r) ⟨tupleKind_room_in1 hu, k, vs, key_is I kb, dd, h _ _ (I.tok _) ?_⟩
  rw [l]
  exact (rel.val (k := k)).getD rd
end
/-! readings and rules -/
section
variable {X : Cx} {o i e f value : Expr} {pos pos' apos cpos : Pos} {td ty tv tx : TE}
def tXGet (X : Cx) (td ty : TE) : TE := fun σ H Q => td σ H fun x H1 => ty σ H1 fun y H2 => ∃ a v, x = .ref a ∧ XGet X H2 a y (some v) ∧ Q v H2
theorem pe_xget (hu : X.A.units + 1 < cLine) (ho : PE X o td) (hi : PE X i ty) (hs : NoSl i) : PE X (.Subscript o i pos) (tXGet X td ty) := by
  refine ⟨fun pins s σ H Q I h => subD_of PySem.F.slot_dict_getitem.lookup hs (thn (ho.run pins s σ H _ I h) fun u s1 ⟨x, H1, I1, rx, q1⟩ => thn (hi.run pins s1 σ H1 _ I1 q1) fun iv s2 ⟨y, H2, I2, ry, a, v, ex, g, q2⟩ => ?_)⟩
  subst ex
  obtain rfl : u = Value.ref a := rx
  exact ⟨(x_type I2 (let ⟨xs, _, _, e, hk, _⟩ := g; ⟨xs, e, hk⟩)).1, x_getItem hu I2 g ry fun w' s3 I3 rw' => ⟨v, H2, I3, rw', q2⟩⟩
def tXIn (X : Cx) (ty td : TE) : TE := fun σ H Q => ty σ H fun y H1 => td σ H1 fun x H2 => ∃ a o, x = .ref a ∧ XGet X H2 a y o ∧ Q (.bl o.isSome) H2
def tXNotIn (X : Cx) (ty td : TE) : TE := fun σ H Q => ty σ H fun y H1 => td σ H1 fun x H2 => ∃ a o, x = .ref a ∧ XGet X H2 a y o ∧ Q (.bl (!o.isSome)) H2
theorem pc_xin (hu : X.A.units + 1 < cLine) (hi : PE X i ty) (ho : PE X o td) : PC X .In i o (tXIn X ty td) := by
  refine ⟨fun pins s σ H Q I h => thn (hi.run pins s σ H _ I h) fun iv s1 ⟨y, H1, I1, ry, q1⟩ => thn (ho.run pins s1 σ H1 _ I1 q1) fun u s2 ⟨x, H2, I2, rx, a, ov, ex, g, q2⟩ => ?_⟩
  subst ex
  obtain rfl : u = Value.ref a := rx
  exact x_in hu I2 g ry fun s3 I3 => ⟨.bl ov.isSome, H2, I3, rfl, q2⟩
theorem pc_xnotin (hu : X.A.units + 1 < cLine) (hi : PE X i ty) (ho : PE X o td) : PC X .NotIn i o (tXNotIn X ty td) := by
  refine ⟨fun pins s σ H Q I h => thn (hi.run pins s σ H _ I h) fun iv s1 ⟨y, H1, I1, ry, q1⟩ => thn (ho.run pins s1 σ H1 _ I1 q1) fun u s2 ⟨x, H2, I2, rx, a, ov, ex, g, q2⟩ => ?_⟩
  subst ex
  obtain rfl : u = Value.ref a := rx
  exact x_notIn hu I2 g ry fun s3 I3 => ⟨.bl (!ov.isSome), H2, I3, rfl, q2⟩
def sXPut (X : Cx) (td ty tv : TE) : TS := fun D σ H => tv σ H fun v H1 => td σ H1 fun x H2 => ty σ H2 fun y H3 => ∃ a H4, x = .ref a ∧ XPut X H3 a y v H4 ∧ D.nx σ H4
theorem ps_xput (hu : X.A.units + 1 < cLine) (ho : PE X o td) (hi : PE X i ty) (hv : PE X value tv) (hs : swapsWith value (some (.Subscript o i pos')) pos.line X.env = pure false) :
    PS X (.Assign [.Subscript o i pos'] value pos) (sXPut X td ty tv) := by
  refine ⟨fun pins s σ H D I h => wpAny_Assign_Subscript (thn (hv.run pins s σ H _ I h) fun r s1 ⟨v, H1, I1, rv, q1⟩ => thn (ho.run pins s1 σ H1 _ I1 q1) fun u s2 ⟨x, H2, I2, rx, q2⟩ => thn (hi.run pins s2 σ H2 _ I2 q2) fun iv s3 ⟨y, H3, I3, ry, a, H4, ex, g, q3⟩ => ?_) hs⟩
  subst ex
  obtain rfl : u = Value.ref a := rx
  exact x_setItem hu I3 g ry rv fun s4 I4 => ⟨σ, H4, I4, q3⟩
def tXGet1 (X : Cx) (td ty : TE) : TE := fun σ H Q => td σ H fun x H1 => ∃ a, x = .ref a ∧ IsX X H1 a ∧ ty σ H1 fun y H2 => ∃ o, XGet X H2 a y o ∧ Q (o.getD .non) H2
def tXGet2 (X : Cx) (td ty tx : TE) : TE := fun σ H Q => td σ H fun x H1 => ∃ a, x = .ref a ∧ IsX X H1 a ∧ ty σ H1 fun y H2 => tx σ H2 fun z H3 => ∃ o, XGet X H3 a y o ∧ Q (o.getD z) H3
theorem pe_xget1 (hu : X.A.units + 1 < cLine) (ho : PE X o td) (he : PE X e ty) (m : M1 X o "get" apos e cpos) : PE X (.Call (.Attribute o "get" apos) [e] [] cpos) (tXGet1 X td ty) := by
  refine ⟨fun pins s σ H Q I h => wpAny_Call_method m.base m.few m.line PySem.F.plainAttrs_dict PySem.F.slot_dict_get PySem.F.type_dict_get (thn (ho.run pins s σ H _ I h) fun u s1 ⟨x, H1, I1, rx, a, ex, d, q1⟩ => ?_)⟩
  subst ex
  obtain rfl : u = Value.ref a := rx
  obtain ⟨t1, t2, _⟩ := x_type I1 d
  rw [m.trees]
  exact ⟨t1, t2, Calls.callWith_builtin rfl (Calls.evalArgs_plain (Calls.spliced_cons (thn (he.run pins s1 σ H1 _ I1 q1) fun iv s2 ⟨y, H2, I2, ry, ov, g, q2⟩ => Calls.spliced_nil (x_get1 hu I2 g ry fun w' s3 I3 rw' => ⟨_, H2, I3, rw', q2⟩))))⟩
theorem pe_xget2 (hu : X.A.units + 1 < cLine) (ho : PE X o td) (he : PE X e ty) (hf : PE X f tx) (m : M2 X o "get" apos e f cpos) : PE X (.Call (.Attribute o "get" apos) [e, f] [] cpos) (tXGet2 X td ty tx) := by
  refine ⟨fun pins s σ H Q I h => wpAny_Call_method m.base m.few m.line PySem.F.plainAttrs_dict PySem.F.slot_dict_get PySem.F.type_dict_get (thn (ho.run pins s σ H _ I h) fun u s1 ⟨x, H1, I1, rx, a, ex, d, q1⟩ => ?_)⟩
  subst ex
  obtain rfl : u = Value.ref a := rx
  obtain ⟨t1, t2, _⟩ := x_type I1 d
  rw [m.trees]
  exact ⟨t1, t2, Calls.callWith_builtin rfl (Calls.evalArgs_plain (Calls.spliced_cons (thn (he.run pins s1 σ H1 _ I1 q1) fun iv s2 ⟨y, H2, I2, ry, q2⟩ =>
    Calls.spliced_cons (thn (hf.run pins s2 σ H2 _ I2 q2) fun fv s3 ⟨z, H3, I3, rz, ov, g, q3⟩ => Calls.spliced_nil (x_get2 hu I3 g ry rz fun w' s4 I4 rw' => ⟨_, H3, I4, rw', q3⟩)))))⟩
/-- {} -/
def tXNew (X : Cx) : TE := fun _ H Q => ∀ p, H p = none → Q (.ref p) (upd H p (xdO X.prog X.w p []))
theorem xd_empty {P : Program} {w : World} (h : Heap) (hb : sysModules < h.objs.size) : XD P w h.objs.size [] (h.push { cls := .type "dict", data := .dict #[] }) :=
  ⟨Nat.zero_le _, beq_eq_false_iff_ne.mpr (Ne.symm (Nat.ne_of_lt hb)), [], _, #[], 0, .nil, Heap.get?_push_size _ rfl, ⟨rfl, rfl, rfl⟩, rfl, rfl, List.nodup_nil⟩
theorem pe_xnew : PE X (.Dict [] [] pos) (tXNew X) := ⟨fun pins s σ H Q I h =>
  wpAny_Dict_empty ⟨.ref s.heap.objs.size, _, I.laid (a := s.heap.objs.size) (o := xdO X.prog X.w s.heap.objs.size []) (t' := s.toks) (fun _ _ q => Heap.get?_push_of_some _ q) (Nat.le_refl _) (xd_ok (xd_empty s.heap I.big)), rfl, h _ (I.hok.fresh (Nat.le_refl _))⟩⟩
/-! {k: v, ..}, the keys tuples -/
def mergeX (acc es : List XE) : List XE := es.foldl (fun acc x => putX acc x.1 x.2.1 x.2.2) acc
theorem mergeX_len : ∀ (es acc : List XE), (mergeX acc es).length ≤ acc.length + es.length
  | [], acc => Nat.le_refl _
  | x :: es, acc => by
    have h1 := mergeX_len es (putX acc x.1 x.2.1 x.2.2)
    have h2 := putX_len (xs := acc) (k := x.1) (b := x.2.1) (v := x.2.2)
    show (mergeX (putX acc x.1 x.2.1 x.2.2) es).length ≤ _
    rw [List.length_cons]
    omega
theorem XV.merge : ∀ {es : List XE} {vs : List (List Key × Addr × Value)} {acc : List XE} {us : List (List Key × Addr × Value)}, XV es vs → XV acc us → XV (mergeX acc es) (storedAllH us vs)
  | _, _, _, _, .nil, h => h
  | _, _, acc, us, .cons (a := p) (b := q) h t, r => by
    obtain ⟨h1, h2, h3⟩ := h
    show XV (mergeX (putX acc p.1 p.2.1 p.2.2) _) (storedAllH (storedH us q.1 q.2.1 q.2.2) _)
    refine XV.merge t ?_
    rw [← h1, ← h2]
    exact r.put h3
theorem carries_x {X : Cx} {pins : List (Addr × Obj)} {σ : L2.St} {H : Hp} {s : Shared} (I : Inv X pins σ H s) : ∀ {es : List XE} {ws : List (Value × Value)}, KeysAt X.K H es → VV (es.map fun x => (V.ref x.2.1, x.2.2)) ws → ∃ vs, CarriesH (kdOf X.prog X.w) s.heap ws vs ∧ XV es vs
  | [], _, _, r => by rw [List.map_nil] at r; cases r; exact ⟨[], True.intro, .nil⟩
  | x :: es, _, hk, r => by
    rw [List.map_cons] at r
    cases r with
    | @cons _ b as bs h t =>
      obtain ⟨vs, c, q⟩ := carries_x I (es := es) (fun y hy => hk y (List.mem_cons_of_mem _ hy)) t
      obtain ⟨b1, b2⟩ := b
      exact ⟨(x.1, x.2.1, b2) :: vs, ⟨h.1, rfl, key_is I (hk x List.mem_cons_self), c⟩, .cons ⟨rfl, rfl, h.2⟩ q⟩
def tXDisp (X : Cx) (trs : List (TE × TE)) : TE := fun σ H Q => ∀ p, H p = none → tPairs trs σ (upd H p (xdO X.prog X.w p [])) fun ps H2 => H2 p = some (xdO X.prog X.w p []) ∧ ∃ es : List XE, ps = es.map (fun x => (V.ref x.2.1, x.2.2)) ∧ KeysAt X.K H2 es ∧ es.length ≤ 15 ∧ Q (.ref p) (upd H2 p (xdO X.prog X.w p (mergeX [] es)))
theorem pe_xdisp {keys : List (Option Expr)} {values : List Expr} {trs : List (TE × TE)} (hu : X.A.units + 1 < cLine) (h : PPs X pos keys values trs) (hall : keys.all (·.isSome) = true) (hl : keys.length = values.length) (h0 : keys ≠ [])
    (h15 : keys.length ≤ 15) : PE X (.Dict keys values pos) (tXDisp X trs) := by
  refine ⟨fun pins s σ H Q I q => ?_⟩
  have hn := I.hok.fresh (Nat.le_refl s.heap.objs.size)
  have I1 := I.laid (a := s.heap.objs.size) (o := xdO X.prog X.w s.heap.objs.size []) (h' := s.heap.push { cls := .type "dict", data := .dict #[] }) (t' := s.toks) (fun _ _ q => Heap.get?_push_of_some _ q) (Nat.le_refl _) (xd_ok (xd_empty s.heap I.big))
  have hlen := pairTrees_length keys values X.env pos hall hl
  have hne : pairTrees keys values X.env pos ≠ [] := fun z => h0 (List.length_eq_zero_iff.mp (by rw [← hlen, z]; rfl))
  have hu' : (kdOf X.prog X.w).room X.A := show X.A.units < cLine by omega
  rw [arm_eval_Dict, zip_pairTrees keys values X.env pos hall hl, dictDisplay_pairs _ hne (by omega)]
  refine wpAny_bind (wpAny_standAt (wpAny_bind (wpAny_subDictH (knd := kdOf X.prog X.w) hu' (by omega) (thn (h.run pins _ σ _ _ I1 (q _ hn)) fun ws s2 ⟨ps, H2, I2, rel, e, es, ep, hk, lk, q2⟩ => ?_))))
  subst ep
  obtain ⟨vs, c, rx⟩ := carries_x I2 hk rel
  obtain ⟨hd, _, vs0, r0, dd⟩ := x_dict I2 (.inl e) (fun x hx => nomatch hx)
  cases r0
  refine ⟨vs, c, dd, fun h' tk dd' hs => wpAny_pure ⟨.ref s.heap.objs.size, _, ?_, rfl, q2⟩⟩
  have hz : (mergeX [] es).length ≤ sizeLine := by
    have h1 := mergeX_len es []
    rw [List.length_nil] at h1
    rw [sizeLine_eq]; omega
  obtain ⟨ob, e1, e2, g1, g2, g3, g4, _, g5⟩ := dd'
  exact d_write I2 (by rw [e]; exact True.intro) hs ⟨ob, g1⟩ (xd_ok ⟨hz, hd, _, ob, e1, e2, rx.merge .nil, g1, g2, g3, g4, g5⟩)
end
/-! ### for k in d -/
/-- the keys of the locked dict at d, in their order -/
def Itx (P : Program) (w : World) (d : Addr) (o : Obj) (xs : List XE) : It :=
  ⟨fun i H => H d = some (.frz o (xdO P w d xs)) ∧ i < xs.length, fun i H x H' => H' = H ∧ ∃ (k : List Key) (b : Addr) (v : V), xs[i]? = some (k, b, v) ∧ x = .ref b, fun i H => H d = some (.frz o (xdO P w d xs)) ∧ xs.length ≤ i⟩
theorem frzX {X : Cx} {pins : List (Addr × Obj)} {σ : L2.St} {H : Hp} {s : Shared} {d : Addr} {o : Obj} {xs : List XE} (I : Inv X pins σ H s) (h : H d = some (.frz o (xdO X.prog X.w d xs))) :
    (d == sysModules) = false ∧ s.heap.get? d = some o ∧ o.ExactDict ∧ ∃ (es : Array DictEntry) (ep : Nat), o.data = .dict es ep ∧ es.size = xs.length ∧
      ∀ (i : Nat) (k : List Key) (b : Addr) (v : V), xs[i]? = some (k, b, v) → ∃ en : DictEntry, es[i]? = some en ∧ en.key = .ref b := by
  obtain ⟨hd, x, _⟩ := I.hok d _ h
  obtain ⟨z, hs, vs, o', es, ep, r, ho, hx, hdt, he, _⟩ := x
  rw [hd] at ho
  cases ho
  refine ⟨hs, hd, hx, es, ep, hdt, ?_, fun i k b v e => ?_⟩
  · have l1 : es.size = vs.length := by rw [← Array.length_toList, he, List.length_map]
    have l2 : xs.length = vs.length := Paired.length r
    omega
  · obtain ⟨u, hu, e1, e2, _⟩ := paired_get r e
    have q : es.toList[i]? = (vs.map (entryOfKey (kdOf X.prog X.w)))[i]? := by rw [he]
    rw [List.getElem?_map, hu, Array.getElem?_toList] at q
    refine ⟨_, q, ?_⟩
    show Value.ref u.2.1 = _
    rw [← e2]
section
variable {P : Program} {w : World} {K : PySem.W.Frag} {tg : Expr} {d : Addr} {o : Obj} {es : Array DictEntry} {ep : Nat}
theorem turn_keysX {xs : List XE} (it : Addr) (hod : o.data = .dict es ep) : Turn P w K tg (Itx P w d o xs) [it] it (fun i h => h.IsKeyIter it d i xs.length ep) where
  mem := by simp
  obj := fun i h st b hb => by
    have e : b = it := by simpa using hb
    subst e
    obtain ⟨oi, e, c, dd⟩ := st
    exact ⟨oi, e, fun v z => by rw [dd] at z; cases z⟩
  keep := fun i h h' st k => st.at fun oi e => k it (by simp) oi e
  item := by
    intro X hP hw hK hc i pins s σ H E I hf st hg
    subst hP hw hK
    obtain ⟨hd, hi⟩ := hg
    obtain ⟨f0, f1, f2, f3, f4, f5⟩ := hf it (by simp)
    obtain ⟨hs, hgd, hx, es', ep', hdt, hsz, ent⟩ := frzX I hd
    obtain ⟨rfl, rfl⟩ := dict_ep hod hdt
    obtain ⟨⟨k, b, v⟩, hkv⟩ : ∃ p, xs[i]? = some p := ⟨xs[i], List.getElem?_eq_getElem hi⟩
    obtain ⟨en, hen, hkey⟩ := ent i k b v hkv
    refine next_key_item st hgd hdt hsz hen fun h' st' sb => ?_
    have I1 : Inv X pins σ H { s with heap := h' } := I.turned (t' := s.toks) (fun b ob hb e => (sb.2 b hb).trans e) f0 f1 f3 f4 f5
    obtain ⟨oi, e, c, dd⟩ := id st'
    exact ⟨en.key, rfl, go_of (s := { s with heap := h' }) e c dd (by decide) ⟨.ref b, H, I1, hkey, ⟨rfl, k, b, v, hkv, rfl⟩, st', fun b hb => (hf b hb).1⟩⟩
  done := by
    intro X hP hw hK hc i pins s σ H E I hf st hg
    subst hP hw hK
    obtain ⟨hd, hi⟩ := hg
    obtain ⟨f0, f1, f2, f3, f4, f5⟩ := hf it (by simp)
    obtain ⟨hs, hgd, hx, es', ep', hdt, hsz, ent⟩ := frzX I hd
    obtain ⟨rfl, rfl⟩ := dict_ep hod hdt
    exact next_key_end (I.ok.hd hc) st hgd hdt hsz hi fun h' eb => ⟨rfl, I.turned (t' := s.toks) (fun b ob hb e => eb b ob hb e) f0 f1 f3 f4 f5⟩
  self := fun A i s Q E st h => by
    refine wpAny_pyIter_slot st.typeIs F.slot_dict_keyiterator_iter (wpAny_call_entry F.slot_dict_keyiterator_iter st.typeIs F.entry_dict_keyiterator_iter ?_ (F.args_dict_keyiterator_iter_1 _))
    show wpAny _ _ (ret (.ref it)) _ _ s
    exact wpAny_pure ⟨_, rfl, "dict_keyiterator", _, st.typeIs, F.slot_dict_keyiterator_next.lookup, h⟩
end
def iKeysX (X : Cx) (td : TE) : TI := fun σ H R => td σ H fun x H1 => ∃ d o xs, x = .ref d ∧ H1 d = some (.frz o (xdO X.prog X.w d xs)) ∧ R (Itx X.prog X.w d o xs) H1
theorem pi_keysX {X : Cx} {tg e : Expr} {td : TE} (he : PE X e td) : PI X tg e (iKeysX X td) := by
  refine ⟨fun pins s σ H R I h => ?_⟩
  refine thn (he.run pins s σ H _ I h) fun u s1 ⟨x, H1, I1, rx, d, o, xs, ex, hd, q⟩ => ?_
  subst ex
  obtain rfl : u = Value.ref d := rx
  obtain ⟨hs, hgd, hx, es, ep, hdt, hsz, ent⟩ := frzX I1 hd
  refine iter_keys hs hgd hx hdt (pi_one (tk := s1.toks) I1 _ (turn_keysX _ hdt) ⟨_, Heap.get?_push_size _ rfl, rfl, ?_⟩ q)
  rw [hsz] <;> rfl
end Sy
/-! Sy: every def as a pure function over an abstract heap; one simulation lemma a construct. -/
namespace Sy
open PySem L2

/-! ### the abstract side -/
inductive AK where
  | i (n : Int) | s (x : String)
  deriving DecidableEq
inductive AV where
  | non | bl (b : Bool) | int (i : Int) | str (x : String) | ref (n : Nat) | tup (xs : List AV) | ro (xs : List AV)
mutual
def AV.beq : AV → AV → Bool
  | .non, .non => true
  | .bl a, .bl b => a == b
  | .int a, .int b => a == b
  | .str a, .str b => a == b
  | .ref a, .ref b => a == b
  | .tup a, .tup b => AV.beqs a b
  | .ro a, .ro b => AV.beqs a b
  | _, _ => false
def AV.beqs : List AV → List AV → Bool
  | [], [] => true
  | x :: xs, y :: ys => AV.beq x y && AV.beqs xs ys
  | _, _ => false
end
mutual
theorem AV.beq_eq : ∀ a b : AV, AV.beq a b = true → a = b
  | .non, b, h => by cases b <;> simp_all [AV.beq]
  | .bl x, b, h => by cases b <;> simp_all [AV.beq]
  | .int x, b, h => by cases b <;> simp_all [AV.beq]
  | .str x, b, h => by cases b <;> simp_all [AV.beq]
  | .ref x, b, h => by cases b <;> simp_all [AV.beq]
  | .tup xs, b, h => by
    cases b with
    | tup ys => rw [AV.beq] at h; rw [AV.beqs_eq xs ys h]
    | _ => simp [AV.beq] at h
  | .ro xs, b, h => by
    cases b with
    | ro ys => rw [AV.beq] at h; rw [AV.beqs_eq xs ys h]
    | _ => simp [AV.beq] at h
theorem AV.beqs_eq : ∀ a b : List AV, AV.beqs a b = true → a = b
  | [], b, h => by cases b <;> simp_all [AV.beqs]
  | x :: xs, b, h => by
    cases b with
    | nil => simp [AV.beqs] at h
    | cons y ys =>
      rw [AV.beqs, Bool.and_eq_true] at h
      rw [AV.beq_eq x y h.1, AV.beqs_eq xs ys h.2]
end
mutual
theorem AV.beq_refl : ∀ a : AV, AV.beq a a = true
  | .non => rfl
  | .bl x => by simp [AV.beq]
  | .int x => by simp [AV.beq]
  | .str x => by simp [AV.beq]
  | .ref x => by simp [AV.beq]
  | .tup xs => by rw [AV.beq]; exact AV.beqs_refl xs
  | .ro xs => by rw [AV.beq]; exact AV.beqs_refl xs
theorem AV.beqs_refl : ∀ a : List AV, AV.beqs a a = true
  | [] => rfl
  | x :: xs => by rw [AV.beqs, AV.beq_refl x, AV.beqs_refl xs]; rfl
end
instance : DecidableEq AV := fun a b => if h : AV.beq a b = true then .isTrue (AV.beq_eq a b h) else .isFalse fun e => h (by rw [e]; exact AV.beq_refl b)

inductive AO where
  | lst (xs : List AV) | dK (kvs : List (AK × AV)) | dT (kvs : List (List AK × AV)) | ins (c : String) (fs : List (String × AV))
  -- a dict while a loop walks it
  | lK (kvs : List (AK × AV)) | lT (kvs : List (List AK × AV))
  -- a set of ints: what is in it, how many
  | st (S : Int → Bool) (n : Nat)
structure AH where
  get : Nat → Option AO
  next : Nat
def AH.set (M : AH) (n : Nat) (o : AO) : AH := ⟨fun m => if m = n then some o else M.get m, M.next⟩
def AH.new (M : AH) (o : AO) : AH := ⟨fun m => if m = M.next then some o else M.get m, M.next + 1⟩
def AH.lst (M : AH) (n : Nat) : Option (List AV) := match M.get n with | some (.lst xs) => some xs | _ => none
def AH.ins (M : AH) (n : Nat) : Option (String × List (String × AV)) := match M.get n with | some (.ins c fs) => some (c, fs) | _ => none
section
variable {κ : Type} [DecidableEq κ] {α : Type}
def look (kvs : List (κ × α)) (k : κ) : Option α := match kvs with | [] => none | (a, v) :: r => if a = k then some v else look r k
def put (kvs : List (κ × α)) (k : κ) (x : α) : List (κ × α) := match kvs with | [] => [(k, x)] | (a, v) :: r => if a = k then (a, x) :: r else (a, v) :: put r k x
def putM (kvs : List (κ × α)) (k : κ) (x : α) : List (κ × α) := if (kvs.any fun kv => decide (kv.1 = k)) = true then kvs.map (fun kv => if kv.1 = k then (kv.1, x) else kv) else kvs ++ [(k, x)]
end
abbrev ASt := List (Option AV)
abbrev AE := ASt → AH → Option (AV × AH)
abbrev AT := ASt → AH → Option (Bool × AH)
abbrev AA := ASt → AH → Option (List AV × AH)
inductive Fl where
  | nx | bk | ct | rt (v : AV)
abbrev AS := ASt → AH → Option (Fl × ASt × AH)
abbrev AG := AV → ASt → Option ASt
abbrev AF := List AV → AH → Option (AV × AH)

/-! ### the relation -/
abbrev Rho := Nat → Option Addr
def Imm0 : HO → Prop
  | .tup _ => True
  | .frz _ (.lst _) => True
  | _ => False
/-- what never changes: tuples, what is frozen, and, while the walk lasts, what is locked -/
def Imm : HO → Prop
  | .tup _ => True
  | .frz _ _ => True
  | _ => False
theorem Imm0.imm {o : HO} (h : Imm0 o) : Imm o := by
  unfold Imm0 at h
  split at h
  · trivial
  · trivial
  · exact h.elim
def Keep (H H' : Hp) : Prop := ∀ b o, Imm o → H b = some o → H' b = some o
def PSq (K : PySem.W.Frag) (H : Hp) (a : Addr) (cs : List V) : Prop := (∃ o, H a = some (.frz o (.lst cs))) ∨ SqL K (fun _ => none) a cs
structure Mo (ρ : Rho) (H : Hp) (ρ' : Rho) (H' : Hp) : Prop where
  le : ∀ n a, ρ n = some a → ρ' n = some a
  keep : Keep H H'
/-- what values ask -/
structure Mo0 (ρ : Rho) (H : Hp) (ρ' : Rho) (H' : Hp) : Prop where
  le : ∀ n a, ρ n = some a → ρ' n = some a
  keep : ∀ b o, Imm0 o → H b = some o → H' b = some o
theorem Mo.weak {ρ ρ' : Rho} {H H' : Hp} (m : Mo ρ H ρ' H') : Mo0 ρ H ρ' H' := ⟨m.le, fun b o i e => m.keep b o (Imm0.imm i) e⟩
theorem Mo.refl (ρ : Rho) (H : Hp) : Mo ρ H ρ H := ⟨fun _ _ h => h, fun _ _ _ h => h⟩
theorem Mo.trans {ρ ρ1 ρ2 : Rho} {H H1 H2 : Hp} (a : Mo ρ H ρ1 H1) (b : Mo ρ1 H1 ρ2 H2) : Mo ρ H ρ2 H2 := ⟨fun n x h => b.le n x (a.le n x h), fun x o i h => b.keep x o i (a.keep x o i h)⟩
theorem PSq.sql {K : PySem.W.Frag} {H : Hp} {a : Addr} {cs : List V} (h : PSq K H a cs) : SqL K H a cs := by
  rcases h with ⟨o, h⟩ | h
  · exact .inl (.inr ⟨o, h⟩)
  · rcases h with h | h
    · rcases h with h | ⟨o, h⟩ <;> cases h
    · exact .inr h
theorem PSq.mo0 {K : PySem.W.Frag} {ρ ρ' : Rho} {H H' : Hp} {a : Addr} {cs : List V} (m : Mo0 ρ H ρ' H') (h : PSq K H a cs) : PSq K H' a cs := by
  rcases h with ⟨o, h⟩ | h
  · exact .inl ⟨o, m.keep _ _ trivial h⟩
  · exact .inr h
theorem PSq.mo {K : PySem.W.Frag} {ρ ρ' : Rho} {H H' : Hp} {a : Addr} {cs : List V} (m : Mo ρ H ρ' H') (h : PSq K H a cs) : PSq K H' a cs := h.mo0 m.weak

def TupAt (K : PySem.W.Frag) (H : Hp) (a : Addr) (cs : List V) : Prop := H a = some (.tup cs) ∨ SqT K (fun _ => none) a cs
theorem TupAt.sqt {K : PySem.W.Frag} {H : Hp} {a : Addr} {cs : List V} (h : TupAt K H a cs) : SqT K H a cs := by
  rcases h with h | h | h
  · exact .inl (.inl h)
  · rcases h with h | ⟨o, h⟩ <;> cases h
  · exact .inr h
theorem TupAt.mo0 {K : PySem.W.Frag} {ρ ρ' : Rho} {H H' : Hp} {a : Addr} {cs : List V} (m : Mo0 ρ H ρ' H') (h : TupAt K H a cs) : TupAt K H' a cs := by
  rcases h with h | h
  · exact .inl (m.keep _ _ trivial h)
  · exact .inr h
theorem TupAt.mo {K : PySem.W.Frag} {ρ ρ' : Rho} {H H' : Hp} {a : Addr} {cs : List V} (m : Mo ρ H ρ' H') (h : TupAt K H a cs) : TupAt K H' a cs := h.mo0 m.weak
theorem KeyAt.mo0 {K : PySem.W.Frag} {ρ ρ' : Rho} {H H' : Hp} {a : Addr} {ks : List Key} (m : Mo0 ρ H ρ' H') (h : KeyAt K H ks a) : KeyAt K H' ks a := by
  rcases h with h | h
  · exact .inl (m.keep _ _ trivial h)
  · exact .inr h
theorem KeyAt.mo {K : PySem.W.Frag} {ρ ρ' : Rho} {H H' : Hp} {a : Addr} {ks : List Key} (m : Mo ρ H ρ' H') (h : KeyAt K H ks a) : KeyAt K H' ks a := h.mo0 m.weak
/-- where the classes stand; the program and the world that the dicts' hashes speak of -/
structure Cle where
  ad : String → Addr
  P : Program
  w : World
  -- the table of the def that has generator expressions
  tb : Option Addr := none
instance : CoeFun Cle (fun _ => String → Addr) := ⟨Cle.ad⟩
mutual
def RV (K : PySem.W.Frag) (ρ : Rho) (H : Hp) : AV → V → Prop
  | .non, c => c = .non
  | .bl b, c => c = .bl b
  | .int i, c => c = .int i
  | .str x, c => c = .str (Str.ofString x)
  | .ref n, c => ∃ a, c = .ref a ∧ ρ n = some a
  | .tup xs, c => ∃ a cs, c = .ref a ∧ TupAt K H a cs ∧ RVs K ρ H xs cs
  | .ro xs, c => ∃ a cs, c = .ref a ∧ PSq K H a cs ∧ RVs K ρ H xs cs
def RVs (K : PySem.W.Frag) (ρ : Rho) (H : Hp) : List AV → List V → Prop
  | [], cs => cs = []
  | x :: xs, cs => ∃ c r, cs = c :: r ∧ RV K ρ H x c ∧ RVs K ρ H xs r
end
section
variable {K : PySem.W.Frag} {ρ ρ' : Rho} {H H' : Hp}
mutual
theorem RV.mo0 (m : Mo0 ρ H ρ' H') : ∀ {x : AV} {c : V}, RV K ρ H x c → RV K ρ' H' x c
  | .non, _, h => by rw [RV] at h ⊢; exact h
  | .bl _, _, h => by rw [RV] at h ⊢; exact h
  | .int _, _, h => by rw [RV] at h ⊢; exact h
  | .str _, _, h => by rw [RV] at h ⊢; exact h
  | .ref _, _, h => by
    rw [RV] at h ⊢
    obtain ⟨a, e, r⟩ := h
    exact ⟨a, e, m.le _ _ r⟩
  | .tup xs, _, h => by
    rw [RV] at h ⊢
    obtain ⟨a, cs, e, r, q⟩ := h
    exact ⟨a, cs, e, r.mo0 m, RVs.mo0 m q⟩
  | .ro xs, _, h => by
    rw [RV] at h ⊢
    obtain ⟨a, cs, e, r, q⟩ := h
    exact ⟨a, cs, e, r.mo0 m, RVs.mo0 m q⟩
theorem RVs.mo0 (m : Mo0 ρ H ρ' H') : ∀ {x : List AV} {c : List V}, RVs K ρ H x c → RVs K ρ' H' x c
  | [], _, h => by rw [RVs] at h ⊢; exact h
  | x :: xs, _, h => by
    rw [RVs] at h ⊢
    obtain ⟨c, r, e, h1, h2⟩ := h
    exact ⟨c, r, e, RV.mo0 m h1, RVs.mo0 m h2⟩
end
theorem RV.mo (m : Mo ρ H ρ' H') {x : AV} {c : V} (h : RV K ρ H x c) : RV K ρ' H' x c := RV.mo0 m.weak h
theorem RVs.mo (m : Mo ρ H ρ' H') {x : List AV} {c : List V} (h : RVs K ρ H x c) : RVs K ρ' H' x c := RVs.mo0 m.weak h
theorem RVs.nil : RVs K ρ H [] [] := by rw [RVs]
theorem RVs.cons {x : AV} {c : V} {xs : List AV} {cs : List V} (h : RV K ρ H x c) (r : RVs K ρ H xs cs) : RVs K ρ H (x :: xs) (c :: cs) := by rw [RVs]; exact ⟨c, cs, rfl, h, r⟩
theorem RVs.length : ∀ {xs : List AV} {cs : List V}, RVs K ρ H xs cs → cs.length = xs.length
  | [], _, h => by rw [RVs] at h; subst h; rfl
  | x :: xs, _, h => by
    rw [RVs] at h
    obtain ⟨c, r, rfl, _, h2⟩ := h
    rw [List.length_cons, List.length_cons, RVs.length h2]
theorem RVs.get : ∀ {xs : List AV} {cs : List V} {i : Nat} {x : AV}, RVs K ρ H xs cs → xs[i]? = some x → ∃ c, cs[i]? = some c ∧ RV K ρ H x c
  | [], _, _, _, _, e => by simp at e
  | y :: xs, _, 0, x, h, e => by
    rw [RVs] at h
    obtain ⟨c, r, rfl, h1, _⟩ := h
    have e' : y = x := by simpa using e
    subst e'
    exact ⟨c, rfl, h1⟩
  | y :: xs, _, i + 1, x, h, e => by
    rw [RVs] at h
    obtain ⟨c, r, rfl, _, h2⟩ := h
    exact RVs.get (i := i) h2 (by simpa using e)
theorem RVs.append : ∀ {xs ys : List AV} {cs ds : List V}, RVs K ρ H xs cs → RVs K ρ H ys ds → RVs K ρ H (xs ++ ys) (cs ++ ds)
  | [], _, _, _, h, h' => by rw [RVs] at h; subst h; exact h'
  | x :: xs, _, _, _, h, h' => by
    rw [RVs] at h
    obtain ⟨c, r, rfl, h1, h2⟩ := h
    exact RVs.cons h1 (RVs.append h2 h')
theorem RVs.set {y : AV} {d : V} (q : RV K ρ H y d) : ∀ {xs : List AV} {cs : List V} {i : Nat}, RVs K ρ H xs cs → RVs K ρ H (xs.set i y) (cs.set i d)
  | [], _, _, h => by rw [RVs] at h; subst h; exact RVs.nil
  | x :: xs, _, 0, h => by
    rw [RVs] at h
    obtain ⟨c, r, rfl, h1, h2⟩ := h
    exact RVs.cons q h2
  | x :: xs, _, i + 1, h => by
    rw [RVs] at h
    obtain ⟨c, r, rfl, h1, h2⟩ := h
    exact RVs.cons h1 (RVs.set q h2)
theorem RVs.take : ∀ {xs : List AV} {cs : List V} (n : Nat), RVs K ρ H xs cs → RVs K ρ H (xs.take n) (cs.take n)
  | _, _, 0, _ => by rw [List.take_zero, List.take_zero]; exact RVs.nil
  | [], _, n + 1, h => by rw [RVs] at h; subst h; exact RVs.nil
  | x :: xs, _, n + 1, h => by
    rw [RVs] at h
    obtain ⟨c, r, rfl, h1, h2⟩ := h
    exact RVs.cons h1 (RVs.take n h2)
theorem RVs.drop : ∀ {xs : List AV} {cs : List V} (n : Nat), RVs K ρ H xs cs → RVs K ρ H (xs.drop n) (cs.drop n)
  | _, _, 0, h => h
  | [], _, n + 1, h => by rw [RVs] at h; subst h; exact RVs.nil
  | x :: xs, _, n + 1, h => by
    rw [RVs] at h
    obtain ⟨c, r, rfl, h1, h2⟩ := h
    exact RVs.drop n h2
theorem RVs.ints : ∀ {ns : List Int} {cs : List V}, RVs K ρ H (ns.map .int) cs → cs = ns.map V.int
  | [], _, h => by rw [List.map_nil, RVs] at h; exact h
  | n :: ns, _, h => by
    rw [List.map_cons, RVs] at h
    obtain ⟨c, r, rfl, h1, h2⟩ := h
    rw [RV] at h1
    rw [h1, RVs.ints h2]
    rfl
theorem RVs.of_ints : ∀ (ns : List Int), RVs K ρ H (ns.map .int) (ns.map V.int)
  | [] => RVs.nil
  | n :: ns => RVs.cons (by rw [RV]) (RVs.of_ints ns)
end

theorem ofString_inj {x y : String} (h : Str.ofString x = Str.ofString y) : x = y := by
  rw [Str.ofString_eq_toList, Str.ofString_eq_toList] at h
  have h1 : (x.toList.map Char.toNat).toArray = (y.toList.map Char.toNat).toArray := congrArg Str.cps h
  have h2 : x.toList.map Char.toNat = y.toList.map Char.toNat := by simpa using congrArg Array.toList h1
  have h3 : x.toList = y.toList := (List.map_inj_right (fun a b e => Char.toNat_inj.mp e)).mp h2
  exact String.toList_inj.mp h3
def AK.k : AK → Key
  | .i n => .inl n
  | .s x => .inr (Str.ofString x)
theorem AK.k_inj {a b : AK} (h : a.k = b.k) : a = b := by
  cases a with
  | i n => cases b with
    | i m => rw [Sum.inl.inj h]
    | s y => cases h
  | s x => cases b with
    | i m => cases h
    | s y => rw [ofString_inj (Sum.inr.inj h)]
theorem AK.ks_inj : ∀ {a b : List AK}, a.map AK.k = b.map AK.k → a = b
  | [], [], _ => rfl
  | [], _ :: _, h => by cases h
  | _ :: _, [], h => by cases h
  | x :: xs, y :: ys, h => by
    have h' : x.k :: xs.map AK.k = y.k :: ys.map AK.k := h
    rw [List.cons.injEq] at h'
    rw [AK.k_inj h'.1, AK.ks_inj h'.2]
/-- a pair of lists of entries -/
def REs {κ κ' : Type} (f : κ → κ') (K : PySem.W.Frag) (ρ : Rho) (H : Hp) : List (κ × AV) → List (κ' × V) → Prop := Paired fun p q => q.1 = f p.1 ∧ RV K ρ H p.2 q.2
section
variable {κ κ' : Type} [DecidableEq κ] [DecidableEq κ'] {f : κ → κ'} {K : PySem.W.Frag} {ρ ρ' : Rho} {H H' : Hp}
theorem REs.mo0 {xs : List (κ × AV)} {cs : List (κ' × V)} (m : Mo0 ρ H ρ' H') (h : REs f K ρ H xs cs) : REs f K ρ' H' xs cs := Paired.mapP h fun _ _ h => ⟨h.1, h.2.mo0 m⟩
theorem REs.mo {xs : List (κ × AV)} {cs : List (κ' × V)} (m : Mo ρ H ρ' H') (h : REs f K ρ H xs cs) : REs f K ρ' H' xs cs := h.mo0 m.weak
theorem REs.val (hf : ∀ a b, f a = f b → a = b) : ∀ {xs : List (κ × AV)} {cs : List (κ' × V)} (k : κ), REs f K ρ H xs cs → (look xs k = none ∧ valV cs (f k) = none) ∨ ∃ x c, look xs k = some x ∧ valV cs (f k) = some c ∧ RV K ρ H x c
  | _, _, k, .nil => .inl ⟨rfl, rfl⟩
  | _, _, k, .cons (a := a) (b := b) h t => by
    obtain ⟨a1, a2⟩ := a
    obtain ⟨b1, b2⟩ := b
    obtain ⟨h1, h2⟩ := h
    have h1 : b1 = f a1 := h1
    subst h1
    unfold look valV
    by_cases e : a1 = k
    · subst e
      rw [if_pos rfl]
      refine .inr ⟨a2, b2, rfl, ?_, h2⟩
      simp
    · have e' : ¬ f a1 = f k := fun q => e (hf _ _ q)
      rw [if_neg e]
      have := REs.val hf k t
      simpa [e', valV] using this
theorem REs.look_lookup {xs : List (String × AV)} {cs : List (Str × V)} {k : String} : REs Str.ofString K ρ H xs cs → (look xs k = none ∧ cs.lookup (Str.ofString k) = none) ∨ ∃ x c, look xs k = some x ∧ cs.lookup (Str.ofString k) = some c ∧ RV K ρ H x c := by
  intro h
  have := REs.val (f := Str.ofString) (fun a b => ofString_inj) k h
  have e : valV cs (Str.ofString k) = cs.lookup (Str.ofString k) := by
    clear this h
    induction cs with
    | nil => rfl
    | cons p r ih =>
      obtain ⟨a, b⟩ := p
      unfold valV at ih ⊢
      by_cases q : a = Str.ofString k
      · subst q; simp
      · have q1 : (Str.ofString k == a) = false := beq_eq_false_iff_ne.mpr (fun z => q z.symm)
        simp only [List.lookup, q1]
        simpa [q] using ih
  rw [e] at this
  exact this
theorem REs.any (hf : ∀ a b, f a = f b → a = b) {k : κ} : ∀ {xs : List (κ × AV)} {cs : List (κ' × V)}, REs f K ρ H xs cs → (cs.any fun kv => decide (kv.1 = f k)) = (xs.any fun kv => decide (kv.1 = k))
  | _, _, .nil => rfl
  | _, _, .cons (a := a) (b := b) h t => by
    obtain ⟨a1, a2⟩ := a
    obtain ⟨b1, b2⟩ := b
    obtain ⟨h1, h2⟩ := h
    have h1 : b1 = f a1 := h1
    subst h1
    rw [List.any_cons, List.any_cons, REs.any hf t]
    by_cases e : a1 = k
    · subst e; simp
    · have e' : ¬ f a1 = f k := fun q => e (hf _ _ q)
      simp [e, e']
theorem REs.mapM (hf : ∀ a b, f a = f b → a = b) {k : κ} {v : AV} {c : V} (hv : RV K ρ H v c) : ∀ {xs : List (κ × AV)} {cs : List (κ' × V)}, REs f K ρ H xs cs →
    REs f K ρ H (xs.map fun kv => if kv.1 = k then (kv.1, v) else kv) (cs.map fun kv => if kv.1 = f k then (kv.1, c) else kv)
  | _, _, .nil => .nil
  | _, _, .cons (a := a) (b := b) h t => by
    obtain ⟨a1, a2⟩ := a
    obtain ⟨b1, b2⟩ := b
    obtain ⟨h1, h2⟩ := h
    have h1 : b1 = f a1 := h1
    subst h1
    refine .cons ?_ (REs.mapM hf hv t)
    dsimp only
    by_cases e : a1 = k
    · subst e
      rw [if_pos rfl, if_pos rfl]
      exact ⟨rfl, hv⟩
    · have e' : ¬ f a1 = f k := fun q => e (hf _ _ q)
      rw [if_neg e, if_neg e']
      exact ⟨rfl, h2⟩
theorem REs.putM (hf : ∀ a b, f a = f b → a = b) {k : κ} {v : AV} {c : V} (hv : RV K ρ H v c) {xs : List (κ × AV)} {cs : List (κ' × V)} (h : REs f K ρ H xs cs) : REs f K ρ H (putM xs k v) (putK cs (f k) c) := by
  unfold Sy.putM putK
  rw [REs.any hf h]
  split
  · exact REs.mapM hf hv h
  · exact Paired.snoc h ⟨rfl, hv⟩
theorem REs.putF {k : String} {v : AV} {c : V} (hv : RV K ρ H v c) : ∀ {xs : List (String × AV)} {cs : List (Str × V)}, REs Str.ofString K ρ H xs cs → REs Str.ofString K ρ H (put xs k v) (putF (Str.ofString k) c cs)
  | _, _, .nil => .cons ⟨rfl, hv⟩ .nil
  | _, _, .cons (a := a) (b := b) h t => by
    obtain ⟨a1, a2⟩ := a
    obtain ⟨b1, b2⟩ := b
    obtain ⟨h1, h2⟩ := h
    have h1 : b1 = Str.ofString a1 := h1
    subst h1
    unfold put L2.putF
    by_cases e : a1 = k
    · subst e
      rw [if_pos rfl, if_pos rfl]
      exact .cons ⟨rfl, hv⟩ t
    · have e' : ¬ Str.ofString a1 = Str.ofString k := fun q => e (ofString_inj q)
      rw [if_neg e, if_neg e']
      exact .cons ⟨rfl, h2⟩ (REs.putF hv t)
end

/-! dicts with tuple keys -/
def RX (K : PySem.W.Frag) (ρ : Rho) (H : Hp) : List (List AK × AV) → List XE → Prop := Paired fun p q => q.1 = p.1.map AK.k ∧ KeyAt K H q.1 q.2.1 ∧ RV K ρ H p.2 q.2.2
section
variable {K : PySem.W.Frag} {ρ ρ' : Rho} {H H' : Hp}
theorem RX.mo0 {xs : List (List AK × AV)} {cs : List XE} (m : Mo0 ρ H ρ' H') (h : RX K ρ H xs cs) : RX K ρ' H' xs cs := Paired.mapP h fun _ _ h => ⟨h.1, h.2.1.mo0 m, h.2.2.mo0 m⟩
theorem RX.mo {xs : List (List AK × AV)} {cs : List XE} (m : Mo ρ H ρ' H') (h : RX K ρ H xs cs) : RX K ρ' H' xs cs := h.mo0 m.weak
theorem RX.keys : ∀ {xs : List (List AK × AV)} {cs : List XE}, RX K ρ H xs cs → KeysAt K H cs
  | _, _, .nil => fun x hx => nomatch hx
  | _, _, .cons h t => fun x hx => by
    rcases List.mem_cons.mp hx with rfl | hx
    · exact h.2.1
    · exact RX.keys t x hx
theorem RX.val (k : List AK) : ∀ {xs : List (List AK × AV)} {cs : List XE}, RX K ρ H xs cs → (look xs k = none ∧ valX cs (k.map AK.k) = none) ∨ ∃ x c, look xs k = some x ∧ valX cs (k.map AK.k) = some c ∧ RV K ρ H x c
  | _, _, .nil => .inl ⟨rfl, rfl⟩
  | _, _, .cons (a := a) (b := b) h t => by
    obtain ⟨a1, a2⟩ := a
    obtain ⟨b1, b2, b3⟩ := b
    obtain ⟨h1, _, h2⟩ := h
    have h1 : b1 = a1.map AK.k := h1
    subst h1
    have ih := RX.val k t
    unfold look
    unfold valX at ih ⊢
    by_cases e : a1 = k
    · subst e
      rw [if_pos rfl]
      refine .inr ⟨a2, b3, rfl, ?_, h2⟩
      simp
    · have e' : ¬ a1.map AK.k = k.map AK.k := fun q => e (AK.ks_inj q)
      rw [if_neg e]
      simpa [e'] using ih
theorem RX.any {k : List AK} : ∀ {xs : List (List AK × AV)} {cs : List XE}, RX K ρ H xs cs → (cs.any fun x => decide (x.1 = k.map AK.k)) = (xs.any fun kv => decide (kv.1 = k))
  | _, _, .nil => rfl
  | _, _, .cons (a := a) (b := b) h t => by
    obtain ⟨a1, a2⟩ := a
    obtain ⟨b1, b2, b3⟩ := b
    obtain ⟨h1, _, h2⟩ := h
    have h1 : b1 = a1.map AK.k := h1
    subst h1
    rw [List.any_cons, List.any_cons, RX.any t]
    by_cases e : a1 = k
    · subst e; simp
    · have e' : ¬ a1.map AK.k = k.map AK.k := fun q => e (AK.ks_inj q)
      simp [e, e']
theorem RX.repl {k : List AK} {v : AV} {c : V} (hv : RV K ρ H v c) : ∀ {xs : List (List AK × AV)} {cs : List XE}, RX K ρ H xs cs →
    RX K ρ H (xs.map fun kv => if kv.1 = k then (kv.1, v) else kv) (cs.map fun x => if x.1 = k.map AK.k then (x.1, x.2.1, c) else x)
  | _, _, .nil => .nil
  | _, _, .cons (a := a) (b := b) h t => by
    obtain ⟨a1, a2⟩ := a
    obtain ⟨b1, b2, b3⟩ := b
    obtain ⟨h1, hk, h2⟩ := h
    have h1 : b1 = a1.map AK.k := h1
    subst h1
    refine .cons ?_ (RX.repl hv t)
    dsimp only
    by_cases e : a1 = k
    · subst e
      rw [if_pos rfl, if_pos rfl]
      exact ⟨rfl, hk, hv⟩
    · have e' : ¬ a1.map AK.k = k.map AK.k := fun q => e (AK.ks_inj q)
      rw [if_neg e, if_neg e']
      exact ⟨rfl, hk, h2⟩
theorem RX.put {k : List AK} {b : Addr} {v : AV} {c : V} (hv : RV K ρ H v c) (hb : KeyAt K H (k.map AK.k) b) {xs : List (List AK × AV)} {cs : List XE} (h : RX K ρ H xs cs) : RX K ρ H (Sy.putM xs k v) (putX cs (k.map AK.k) b c) := by
  unfold Sy.putM putX
  rw [RX.any h]
  split
  · exact RX.repl hv h
  · exact Paired.snoc h ⟨rfl, hb, hv⟩
end

/-! ### the heaps -/
def RO (K : PySem.W.Frag) (cl : Cle) (ρ : Rho) (H : Hp) (a : Addr) : AO → Prop
  | .lst xs => ∃ cs, H a = some (.lst cs) ∧ RVs K ρ H xs cs
  | .dK kvs => ∃ cs, H a = some (.dK cs) ∧ REs AK.k K ρ H kvs cs
  | .dT kvs => ∃ cs, H a = some (xdO cl.P cl.w a cs) ∧ RX K ρ H kvs cs
  | .lK kvs => ∃ o cs, H a = some (.frz o (.dK cs)) ∧ REs AK.k K ρ H kvs cs
  | .lT kvs => ∃ o cs, H a = some (.frz o (xdO cl.P cl.w a cs)) ∧ RX K ρ H kvs cs
  | .st S n => H a = some (SetO cl.w a S n)
  | .ins c fs => ∃ dx cs, H a = some (.ins (cl c) dx cs) ∧ REs Str.ofString K ρ H fs cs ∧ (∀ f v, (f, v) ∈ fs → NoAttr K (cl c) (Str.ofString f)) ∧ Cls K (cl c)
structure Sm (K : PySem.W.Frag) (cl : Cle) (ρ : Rho) (M : AH) (H : Hp) : Prop where
  inj : ∀ {n m a}, ρ n = some a → ρ m = some a → n = m
  dom : ∀ {n a}, ρ n = some a → n < M.next
  obj : ∀ {n o}, M.get n = some o → ∃ a, ρ n = some a ∧ RO K cl ρ H a o
  rng : ∀ {n a}, ρ n = some a → H a ≠ none
  tab : ∀ P, cl.tb = some P → GxR.TabG H P
section
variable {K : PySem.W.Frag} {cl : Cle} {ρ ρ' : Rho} {M M' : AH} {H H' : Hp} {a b : Addr} {n m : Nat} {o o' : AO} {ho : HO}
theorem RO.mo0 (x : Mo0 ρ H ρ' H') (e : H' a = H a) (h : RO K cl ρ H a o) : RO K cl ρ' H' a o := by
  cases o with
  | lst xs => obtain ⟨cs, h1, h2⟩ := h; exact ⟨cs, e.trans h1, h2.mo0 x⟩
  | dK xs => obtain ⟨cs, h1, h2⟩ := h; exact ⟨cs, e.trans h1, h2.mo0 x⟩
  | dT xs => obtain ⟨cs, h1, h2⟩ := h; exact ⟨cs, e.trans h1, h2.mo0 x⟩
  | lK xs => obtain ⟨o, cs, h1, h2⟩ := h; exact ⟨o, cs, e.trans h1, h2.mo0 x⟩
  | lT xs => obtain ⟨o, cs, h1, h2⟩ := h; exact ⟨o, cs, e.trans h1, h2.mo0 x⟩
  | st S n => exact e.trans h
  | ins c fs => obtain ⟨dx, cs, h1, h2, h3⟩ := h; exact ⟨dx, cs, e.trans h1, h2.mo0 x, h3⟩
theorem RO.mo (x : Mo ρ H ρ' H') (e : H' a = H a) (h : RO K cl ρ H a o) : RO K cl ρ' H' a o := h.mo0 x.weak e
def AO.lk : AO → Bool
  | .lK _ => true
  | .lT _ => true
  | _ => false
theorem RO.notImm (h : RO K cl ρ H a o) (hk : o.lk = false := by rfl) : ∀ u, H a = some u → ¬ Imm u := by
  intro u e
  cases o with
  | lst xs => obtain ⟨cs, h1, _⟩ := h; rw [h1] at e; cases e; exact fun z => z
  | dK xs => obtain ⟨cs, h1, _⟩ := h; rw [h1] at e; cases e; exact fun z => z
  | dT xs => obtain ⟨cs, h1, _⟩ := h; rw [h1] at e; cases e; exact fun z => z
  | lK xs => cases hk
  | lT xs => cases hk
  | st S n => have h : H a = some (SetO cl.w a S n) := h; rw [h] at e; cases e; exact fun z => z
  | ins c fs => obtain ⟨dx, cs, h1, _⟩ := h; rw [h1] at e; cases e; exact fun z => z
theorem RO.notTbl (h : RO K cl ρ H a o) (ps : Array Value) : H a ≠ some (.tbl ps) := by
  intro e
  cases o with
  | lst xs => obtain ⟨cs, h1, _⟩ := h; rw [h1] at e; cases e
  | dK xs => obtain ⟨cs, h1, _⟩ := h; rw [h1] at e; cases e
  | dT xs => obtain ⟨cs, h1, _⟩ := h; rw [h1] at e; cases e
  | lK xs => obtain ⟨o, cs, h1, _⟩ := h; rw [h1] at e; cases e
  | lT xs => obtain ⟨o, cs, h1, _⟩ := h; rw [h1] at e; cases e
  | st S n => have h : H a = some (SetO cl.w a S n) := h; rw [h] at e; cases e
  | ins c fs => obtain ⟨dx, cs, h1, _⟩ := h; rw [h1] at e; cases e
theorem tab_upd {ho : HO} (h : ∀ P, cl.tb = some P → GxR.TabG H P) (n : ∀ ps, H a ≠ some (.tbl ps)) : ∀ P, cl.tb = some P → GxR.TabG (L2.upd H a ho) P := fun P e => by
  obtain ⟨ps, h1, h2⟩ := h P e
  refine ⟨ps, ?_, h2⟩
  have ne : P ≠ a := fun z => n ps (by rw [← z]; exact h1)
  rw [upd_ne ne]
  exact h1
theorem keep_upd (h : ∀ u, H a = some u → ¬ Imm u) : Keep H (upd H a ho) := fun b o i e => by
  by_cases q : b = a
  · subst q; exact absurd i (h _ e)
  · rw [upd_ne q]; exact e
theorem keep_new (h : H a = none) : Keep H (upd H a ho) := keep_upd fun u e => by rw [h] at e; cases e
theorem mo_upd (h : ∀ u, H a = some u → ¬ Imm u) : Mo ρ H ρ (upd H a ho) := ⟨fun _ _ h => h, keep_upd h⟩
theorem mo_side (h : H a = none) : Mo ρ H ρ (upd H a ho) := ⟨fun _ _ h => h, keep_new h⟩
/-- a tracked object is changed -/
theorem Sm.upd (S : Sm K cl ρ M H) (g : M.get n = some o) (r : ρ n = some a) (new : RO K cl ρ (upd H a ho) a o') (hk : o.lk = false := by rfl) : Sm K cl ρ (M.set n o') (upd H a ho) ∧ Mo ρ H ρ (upd H a ho) := by
  have hi : ∀ u, H a = some u → ¬ Imm u := by
    obtain ⟨a', r', x⟩ := S.obj g
    rw [r] at r'; cases r'
    exact x.notImm hk
  have mo : Mo ρ H ρ (L2.upd H a ho) := mo_upd hi
  have nt : ∀ ps, H a ≠ some (.tbl ps) := by
    obtain ⟨a', r', x⟩ := S.obj g
    rw [r] at r'; cases r'
    exact x.notTbl
  refine ⟨⟨S.inj, S.dom, fun {m u} e => ?_, fun {m b} e => ?_, tab_upd S.tab nt⟩, mo⟩
  · by_cases q : m = n
    · subst q
      have e' : some o' = some u := by simpa [AH.set] using e
      cases e'
      exact ⟨a, r, new⟩
    · have e' : M.get m = some u := by simpa [AH.set, q] using e
      obtain ⟨b, rb, x⟩ := S.obj e'
      have nb : b ≠ a := fun z => q (S.inj rb (z ▸ r))
      exact ⟨b, rb, x.mo mo (upd_ne nb)⟩
  · by_cases q : b = a
    · subst q; rw [upd_same]; exact fun z => nomatch z
    · rw [upd_ne q]; exact S.rng e
/-- a locked one is let go -/
theorem Sm.free {od : Obj} {u : HO} (S : Sm K cl ρ M H) (g : M.get n = some o) (r : ρ n = some a) (hu : H a = some (.frz od u)) (hn : ∀ xs, u ≠ .lst xs) (new : ∀ {H'}, Mo0 ρ H ρ H' → H' a = some u → RO K cl ρ H' a o') : Sm K cl ρ (M.set n o') (L2.upd H a u) := by
  have mo : Mo0 ρ H ρ (L2.upd H a u) := ⟨fun _ _ h => h, fun b o i e => by
    by_cases q : b = a
    · subst q
      rw [hu] at e
      cases e
      cases u with
      | lst xs => exact absurd rfl (hn xs)
      | _ => exact i.elim
    · rw [upd_ne q]; exact e⟩
  refine ⟨S.inj, S.dom, fun {m w} e => ?_, fun {m b} e => ?_, tab_upd S.tab (by rw [hu]; exact fun ps z => nomatch z)⟩
  · by_cases q : m = n
    · subst q
      have e' : some o' = some w := by simpa [AH.set] using e
      cases e'
      exact ⟨a, r, new mo upd_same⟩
    · have e' : M.get m = some w := by simpa [AH.set, q] using e
      obtain ⟨b, rb, x⟩ := S.obj e'
      have nb : b ≠ a := fun z => q (S.inj rb (z ▸ r))
      exact ⟨b, rb, x.mo0 mo (upd_ne nb)⟩
  · by_cases q : b = a
    · subst q; rw [upd_same]; exact fun z => nomatch z
    · rw [upd_ne q]; exact S.rng e
/-- something is laid that the abstract heap doesn't know -/
theorem Sm.side (S : Sm K cl ρ M H) (h : H a = none) : Sm K cl ρ M (L2.upd H a ho) := by
  have mo : Mo ρ H ρ (L2.upd H a ho) := mo_side h
  have ne : ∀ {m b}, ρ m = some b → b ≠ a := fun e z => S.rng e (z ▸ h)
  refine ⟨S.inj, S.dom, fun {m u} e => ?_, fun {m b} e => ?_, tab_upd S.tab (by rw [h]; exact fun ps z => nomatch z)⟩
  · obtain ⟨b, rb, x⟩ := S.obj e
    exact ⟨b, rb, x.mo mo (upd_ne (ne rb))⟩
  · rw [upd_ne (ne e)]; exact S.rng e
def ext (ρ : Rho) (n : Nat) (a : Addr) : Rho := fun m => if m = n then some a else ρ m
/-- a new object -/
theorem Sm.new (S : Sm K cl ρ M H) (h : H a = none) (new : RO K cl (ext ρ M.next a) (L2.upd H a ho) a o) :
    Sm K cl (ext ρ M.next a) (M.new o) (L2.upd H a ho) ∧ Mo ρ H (ext ρ M.next a) (L2.upd H a ho) ∧ ext ρ M.next a M.next = some a := by
  have le : ∀ m b, ρ m = some b → ext ρ M.next a m = some b := fun m b e => by
    have := S.dom e
    unfold ext
    rw [if_neg (by omega)]
    exact e
  have mo : Mo ρ H (ext ρ M.next a) (L2.upd H a ho) := ⟨le, keep_new h⟩
  have at' : ext ρ M.next a M.next = some a := by unfold ext; rw [if_pos rfl]
  have ne : ∀ {m b}, ρ m = some b → b ≠ a := fun e z => S.rng e (z ▸ h)
  have back : ∀ {m b}, ext ρ M.next a m = some b → (m = M.next ∧ b = a) ∨ ρ m = some b := fun {m b} e => by
    unfold ext at e
    by_cases q : m = M.next
    · rw [if_pos q] at e; cases e; exact .inl ⟨q, rfl⟩
    · rw [if_neg q] at e; exact .inr e
  refine ⟨⟨fun {m k b} e1 e2 => ?_, fun {m b} e => ?_, fun {m u} e => ?_, fun {m b} e => ?_, tab_upd S.tab (by rw [h]; exact fun ps z => nomatch z)⟩, mo, at'⟩
  · rcases back e1 with ⟨q1, z1⟩ | q1 <;> rcases back e2 with ⟨q2, z2⟩ | q2
    · rw [q1, q2]
    · exact absurd z1 (ne q2)
    · exact absurd z2 (ne q1)
    · exact S.inj q1 q2
  · show m < M.next + 1
    rcases back e with ⟨q, _⟩ | q
    · omega
    · have := S.dom q; omega
  · by_cases q : m = M.next
    · subst q
      have e' : some o = some u := by simpa [AH.new] using e
      cases e'
      exact ⟨a, at', new⟩
    · have e' : M.get m = some u := by simpa [AH.new, q] using e
      obtain ⟨b, rb, x⟩ := S.obj e'
      exact ⟨b, le _ _ rb, x.mo mo (upd_ne (ne rb))⟩
  · rcases back e with ⟨_, z⟩ | q
    · subst z; rw [upd_same]; exact fun z => nomatch z
    · rw [upd_ne (ne q)]; exact S.rng q
end
end Sy
namespace Sy
open PySem L2

def RSo (K : PySem.W.Frag) (ρ : Rho) (H : Hp) : Option AV → Option V → Prop
  | some x, some c => RV K ρ H x c
  | none, none => True
  | _, _ => False
def RS (K : PySem.W.Frag) (ρ : Rho) (H : Hp) : ASt → St → Prop := Paired (RSo K ρ H)
section
variable {K : PySem.W.Frag} {ρ ρ' : Rho} {H H' : Hp} {σ : ASt} {c : St}
theorem RSo.mo0 (m : Mo0 ρ H ρ' H') : ∀ {x : Option AV} {y : Option V}, RSo K ρ H x y → RSo K ρ' H' x y
  | some _, some _, h => RV.mo0 m h
  | none, none, _ => trivial
  | some _, none, h => h.elim
  | none, some _, h => h.elim
theorem RS.mo0 (m : Mo0 ρ H ρ' H') (h : RS K ρ H σ c) : RS K ρ' H' σ c := Paired.mapP h fun _ _ => RSo.mo0 m
theorem RS.mo (m : Mo ρ H ρ' H') (h : RS K ρ H σ c) : RS K ρ' H' σ c := h.mo0 m.weak
theorem RS.get : ∀ {σ : ASt} {c : St} {i : Nat} {x : AV}, RS K ρ H σ c → σ[i]? = some (some x) → ∃ y, c[i]? = some (some y) ∧ RV K ρ H x y
  | _, _, _, _, .nil, e => by simp at e
  | _, _, 0, x, .cons (a := a) (b := b) h t, e => by
    have e' : a = some x := by simpa using e
    subst e'
    cases b with
    | none => exact h.elim
    | some y => exact ⟨y, rfl, h⟩
  | _, _, i + 1, x, .cons (a := a) (b := b) h t, e => by
    obtain ⟨y, h1, h2⟩ := RS.get (i := i) t (by simpa using e)
    exact ⟨y, by simpa using h1, h2⟩
theorem RS.set {x : Option AV} {y : Option V} (q : RSo K ρ H x y) : ∀ {σ : ASt} {c : St} (i : Nat), RS K ρ H σ c → RS K ρ H (σ.set i x) (c.set i y)
  | _, _, _, .nil => .nil
  | _, _, 0, .cons _ t => .cons q t
  | _, _, i + 1, .cons h t => .cons h (RS.set q i t)
theorem RS.of_vals : ∀ {xs : List AV} {cs : List V}, RVs K ρ H xs cs → RS K ρ H (xs.map some) (cs.map some)
  | [], _, h => by rw [RVs] at h; subst h; exact .nil
  | x :: xs, _, h => by
    rw [RVs] at h
    obtain ⟨c, r, rfl, h1, h2⟩ := h
    exact .cons h1 (RS.of_vals h2)
theorem RS.app : ∀ {a b : ASt} {c d : St}, RS K ρ H a c → RS K ρ H b d → RS K ρ H (a ++ b) (c ++ d)
  | _, _, _, _, .nil, h => h
  | _, _, _, _, .cons h t, h' => .cons h (RS.app t h')
theorem RS.nones : ∀ n : Nat, RS K ρ H (List.replicate n none) (List.replicate n none)
  | 0 => .nil
  | n + 1 => .cons trivial (RS.nones n)
end

/-! ### simulations -/
section
variable (K : PySem.W.Frag) (cl : Cle)
def SimE (t : TE) (a : AE) : Prop := ∀ ⦃ρ M H σ c v M'⦄, Sm K cl ρ M H → RS K ρ H σ c → a σ M = some (v, M') → ∀ Q : VK, (∀ ρ' H' w, Sm K cl ρ' M' H' → Mo ρ H ρ' H' → RV K ρ' H' v w → Q w H') → t c H Q
def SimT (t : TT) (a : AT) : Prop := ∀ ⦃ρ M H σ c v M'⦄, Sm K cl ρ M H → RS K ρ H σ c → a σ M = some (v, M') → ∀ Q : Bool → Hp → Prop, (∀ ρ' H', Sm K cl ρ' M' H' → Mo ρ H ρ' H' → Q v H') → t c H Q
def SimA (t : TA) (a : AA) : Prop := ∀ ⦃ρ M H σ c v M'⦄, Sm K cl ρ M H → RS K ρ H σ c → a σ M = some (v, M') → ∀ Q : List V → Hp → Prop, (∀ ρ' H' w, Sm K cl ρ' M' H' → Mo ρ H ρ' H' → RVs K ρ' H' v w → Q w H') → t c H Q
def RF (ρ : Rho) (H : Hp) (D : Ends) (f : Fl) (c : St) : Prop := match f with
  | .nx => D.nx c H
  | .bk => D.bk c H
  | .ct => D.ct c H
  | .rt v => ∀ w, RV K ρ H v w → D.rt w H
def SimS (t : TS) (a : AS) : Prop := ∀ ⦃ρ M H σ c f σ' M'⦄, Sm K cl ρ M H → RS K ρ H σ c → a σ M = some (f, σ', M') → ∀ D : Ends, (∀ ρ' H' c', Sm K cl ρ' M' H' → Mo ρ H ρ' H' → RS K ρ' H' σ' c' → RF K ρ' H' D f c') → t D c H
abbrev A2 := AV → AV → AH → Option (AV × AH)
abbrev A1 := AV → AH → Option (AV × AH)
def Sim2 (r : R2) (f : A2) : Prop := ∀ ⦃ρ M H x y c d v M'⦄, Sm K cl ρ M H → RV K ρ H x c → RV K ρ H y d → f x y M = some (v, M') → ∀ Q : VK, (∀ ρ' H' w, Sm K cl ρ' M' H' → Mo ρ H ρ' H' → RV K ρ' H' v w → Q w H') → r c d H Q
def Sim1 (r : V → Hp → VK → Prop) (f : A1) : Prop := ∀ ⦃ρ M H x c v M'⦄, Sm K cl ρ M H → RV K ρ H x c → f x M = some (v, M') → ∀ Q : VK, (∀ ρ' H' w, Sm K cl ρ' M' H' → Mo ρ H ρ' H' → RV K ρ' H' v w → Q w H') → r c H Q
def SimC (r : List V → Hp → VK → Prop) (f : AF) : Prop := ∀ ⦃ρ M H x c v M'⦄, Sm K cl ρ M H → RVs K ρ H x c → f x M = some (v, M') → ∀ Q : VK, (∀ ρ' H' w, Sm K cl ρ' M' H' → Mo ρ H ρ' H' → RV K ρ' H' v w → Q w H') → r c H Q
/-- a def's promise -/
def spA (m : AF) : Sp := fun vs H Q _ => ∃ ρ M avs v M', Sm K cl ρ M H ∧ RVs K ρ H avs vs ∧ m avs M = some (v, M') ∧ ∀ ρ' H' w, Sm K cl ρ' M' H' → Mo ρ H ρ' H' → RV K ρ' H' v w → Q w H'
end
def PEa (X : Cx) (cl : Cle) (e : Expr) (a : AE) : Prop := ∃ t, PE X e t ∧ SimE X.K cl t a
def PTa (X : Cx) (cl : Cle) (e : Expr) (a : AT) : Prop := ∃ t, PT X e t ∧ SimT X.K cl t a
def PWa (X : Cx) (cl : Cle) (e : Expr) (a : AT) : Prop := ∃ t, PW X e t ∧ SimT X.K cl t a
def PAa (X : Cx) (cl : Cle) (es : List Expr) (a : AA) : Prop := ∃ t, PA X es t ∧ SimA X.K cl t a
def PSa (X : Cx) (cl : Cle) (st : Stmt) (a : AS) : Prop := ∃ t, PS X st t ∧ SimS X.K cl t a
def PSsa (X : Cx) (cl : Cle) (sts : List Stmt) (a : AS) : Prop := ∃ t, PSs X sts t ∧ SimS X.K cl t a

/-! ### the abstract words -/
def eVar (i : Nat) : AE := fun σ M => match σ[i]? with | some (some v) => some (v, M) | _ => none
def eC (v : AV) : AE := fun _ M => some (v, M)
def eUn (f : A1) (a : AE) : AE := fun σ M => (a σ M).bind fun p => f p.1 p.2
def eBin (f : A2) (a b : AE) : AE := fun σ M => (a σ M).bind fun p => (b σ p.2).bind fun q => f p.1 q.1 q.2
def gNil' : AA := fun _ M => some ([], M)
def gCons' (a : AE) (r : AA) : AA := fun σ M => (a σ M).bind fun p => (r σ p.2).bind fun q => some (p.1 :: q.1, q.2)
def eArgs (f : AF) (a : AA) : AE := fun σ M => (a σ M).bind fun p => f p.1 p.2
def eIf (t : AT) (a b : AE) : AE := fun σ M => (t σ M).bind fun p => if p.1 = true then a σ p.2 else b σ p.2
def fTup : AF := fun vs M => if vs.length ≤ 100000 then some (.tup vs, M) else none
def fLst : AF := fun vs M => if vs.length ≤ 100000 then some (.ref M.next, M.new (.lst vs)) else none
def eFld (f : String) (a : AE) : AE := eUn (fun v M => match v with
  | .ref n => match M.ins n with
    | some (_, fs) => (look fs f).map fun x => (x, M)
    | none => none
  | _ => none) a
def eMeth (tbl : String → Option AF) (nm : String) (a : AE) (r : AA) : AE := fun σ M => (a σ M).bind fun p => match p.1 with
  | .ref n => match p.2.ins n with
    | some (c, fs) => match tbl c, look fs nm with
      | some m, none => (r σ p.2).bind fun q => m (.ref n :: q.1) q.2
      | _, _ => none
    | none => none
  | _ => none
def eMethL (l : List (String × AF)) (nm : String) (a : AE) (r : AA) : AE := eMeth (look l) nm a r
def eMake (c : String) (m : AF) (r : AA) : AE := fun σ M => (r σ M).bind fun p => (m (.ref p.2.next :: p.1) (p.2.new (.ins c []))).bind fun q => if q.1 = .non then some (.ref p.2.next, q.2) else none
def eDNewT : AE := fun _ M => some (.ref M.next, M.new (.dT []))
def eDNewK : AE := fun _ M => some (.ref M.next, M.new (.dK []))
def sSeq (a b : AS) : AS := fun σ M => (a σ M).bind fun p => match p.1 with
  | .nx => b p.2.1 p.2.2
  | f => some (f, p.2)
def sNext : AS := fun σ M => some (.nx, σ, M)
def sBreak : AS := fun σ M => some (.bk, σ, M)
def sCont : AS := fun σ M => some (.ct, σ, M)
def sRet (a : AE) : AS := fun σ M => (a σ M).bind fun p => some (.rt p.1, σ, p.2)
def sRetN : AS := fun σ M => some (.rt .non, σ, M)
def sExpr (a : AE) : AS := fun σ M => (a σ M).bind fun p => some (.nx, σ, p.2)
def sAsg (a : AE) (g : AG) : AS := fun σ M => (a σ M).bind fun p => (g p.1 σ).bind fun σ' => some (.nx, σ', p.2)
def sIf (t : AT) (a b : AS) : AS := fun σ M => (t σ M).bind fun p => if p.1 = true then a σ p.2 else b σ p.2
def sNever : AS := fun _ _ => none
def aName (i : Nat) : AG := fun v σ => some (σ.set i (some v))
def fldPut (cs : List String) (f : String) (M : AH) (v : AV) (y : AV) : Option AH := match v with
  | .ref n => match M.ins n with
    | some (c, fs) => if cs.contains c = true ∧ fs.length < 1000 then some (M.set n (.ins c (put fs f y))) else none
    | none => none
  | _ => none
def sFldSet (cs : List String) (f : String) (a y : AE) : AS := fun σ M => (y σ M).bind fun p => (a σ p.2).bind fun q => (fldPut cs f q.2 q.1 p.1).bind fun M' => some (.nx, σ, M')
def sFldAug' (cs : List String) (f : String) (op : A2) (a y : AE) : AS := fun σ M => (a σ M).bind fun p => match p.1 with
  | .ref n => match p.2.ins n with
    | some (c, fs) => (look fs f).bind fun x => (y σ p.2).bind fun q => (op x q.1 q.2).bind fun r => if (r.2.ins n).map (·.1) = some c then (fldPut cs f r.2 (.ref n) r.1).bind fun M' => some (.nx, σ, M') else none
    | none => none
  | _ => none
def callA (a : AS) (n k : Nat) : AF := fun avs M => if avs.length = k then (a (avs.map some ++ List.replicate (n - k) none) M).bind fun p => match p.1 with
    | .rt v => some (v, p.2.2)
    | .nx => some (.non, p.2.2)
    | _ => none
  else none
def qNot (t : AT) : AT := fun σ M => (t σ M).bind fun p => some (!p.1, p.2)
def qAnd (t u : AT) : AT := fun σ M => (t σ M).bind fun p => if p.1 = true then u σ p.2 else some (false, p.2)
def qOr (t u : AT) : AT := fun σ M => (t σ M).bind fun p => if p.1 = true then some (true, p.2) else u σ p.2
def tru (v : AV) (M : AH) : Option Bool := match v with
  | .non => some false
  | .bl b => some b
  | .int i => some (i != 0)
  | .tup xs => some (!xs.isEmpty)
  | .ref n => match M.get n with
    | some (.lst xs) => some (!xs.isEmpty)
    | some (.dK xs) => some (!xs.isEmpty)
    | _ => none
  | _ => none
def qTru (a : AE) : AT := fun σ M => (a σ M).bind fun p => (tru p.1 p.2).map fun b => (b, p.2)

theorem le_sizeLine {n : Nat} (h : n ≤ 100000) : n ≤ sizeLine := Nat.le_trans h (by decide)
theorem lt_sizeLine {n : Nat} (h : n < 100000) : n < sizeLine := Nat.lt_of_lt_of_le h (by decide)
theorem AH.ins_eq {M : AH} {n : Nat} {c : String} {fs : List (String × AV)} (h : M.ins n = some (c, fs)) : M.get n = some (.ins c fs) := by
  unfold AH.ins at h
  split at h
  · cases h; assumption
  · cases h
theorem AH.lst_eq {M : AH} {n : Nat} {xs : List AV} (h : M.lst n = some xs) : M.get n = some (.lst xs) := by
  unfold AH.lst at h
  split at h
  · cases h; assumption
  · cases h

theorem look_mem {κ α : Type} [DecidableEq κ] {k : κ} {v : α} : ∀ {fs : List (κ × α)}, look fs k = some v → (k, v) ∈ fs
  | [], h => by cases h
  | (g, w) :: t, h => by
    unfold look at h
    by_cases q : g = k
    · rw [if_pos q] at h; cases h; subst q; exact List.mem_cons_self
    · rw [if_neg q] at h; exact List.mem_cons_of_mem _ (look_mem h)
section
variable {K : PySem.W.Frag} {cl : Cle} {X : Cx}
theorem PE.or {e : Expr} {t u : TE} (h : PE X e t) (h' : PE X e u) : PE X e (fun σ H Q => t σ H Q ∨ u σ H Q) := ⟨fun pins s σ H Q I q => q.elim (h.run pins s σ H Q I) (h'.run pins s σ H Q I)⟩
theorem PE.ex {ι : Type} {e : Expr} {t : ι → TE} (h : ∀ i, PE X e (t i)) : PE X e (fun σ H Q => ∃ i, t i σ H Q) := ⟨fun pins s σ H Q I ⟨i, q⟩ => (h i).run pins s σ H Q I q⟩
theorem PS.or {e : Stmt} {t u : TS} (h : PS X e t) (h' : PS X e u) : PS X e (fun D σ H => t D σ H ∨ u D σ H) := ⟨fun pins s σ H D I q => q.elim (h.run pins s σ H D I) (h'.run pins s σ H D I)⟩

theorem sim_var {i : Nat} : SimE K cl (tVar i) (eVar i) := by
  intro ρ M H σ c v M' S R h Q k
  unfold eVar at h
  split at h
  · rename_i x e
    cases h
    obtain ⟨y, e2, r⟩ := R.get e
    exact ⟨y, e2, k _ _ _ S (Mo.refl _ _) r⟩
  · cases h
theorem sim_c {x : V} {v : AV} (r : ∀ ρ H, RV K ρ H v x) : SimE K cl (tC x) (eC v) := by
  intro ρ M H σ c v' M' S R h Q k
  cases h
  exact k _ _ _ S (Mo.refl _ _) (r _ _)
theorem sim_bin {r : R2} {f : A2} {ta tb : TE} {a b : AE} (hr : Sim2 K cl r f) (ha : SimE K cl ta a) (hb : SimE K cl tb b) : SimE K cl (tOp r ta tb) (eBin f a b) := by
  intro ρ M H σ c v M' S R h Q k
  obtain ⟨⟨x, M1⟩, e1, h⟩ := Option.bind_eq_some_iff.mp h
  obtain ⟨⟨y, M2⟩, e2, h⟩ := Option.bind_eq_some_iff.mp h
  refine ha S R e1 _ fun ρ1 H1 x' S1 m1 r1 => ?_
  refine hb S1 (R.mo m1) e2 _ fun ρ2 H2 y' S2 m2 r2 => ?_
  exact hr S2 (r1.mo m2) r2 h _ fun ρ3 H3 z S3 m3 r3 => k _ _ _ S3 ((m1.trans m2).trans m3) r3
theorem sim_un {r : V → Hp → VK → Prop} {f : A1} {ta : TE} {a : AE} (hr : Sim1 K cl r f) (ha : SimE K cl ta a) : SimE K cl (tUn r ta) (eUn f a) := by
  intro ρ M H σ c v M' S R h Q k
  obtain ⟨⟨x, M1⟩, e1, h⟩ := Option.bind_eq_some_iff.mp h
  refine ha S R e1 _ fun ρ1 H1 x' S1 m1 r1 => ?_
  exact hr S1 r1 h _ fun ρ3 H3 z S3 m3 r3 => k _ _ _ S3 (m1.trans m3) r3
theorem sim_nil : SimA K cl tNil gNil' := by
  intro ρ M H σ c v M' S R h Q k
  cases h
  exact k _ _ _ S (Mo.refl _ _) RVs.nil
theorem sim_cons {ta : TE} {tr : TA} {a : AE} {r : AA} (ha : SimE K cl ta a) (hr : SimA K cl tr r) : SimA K cl (tCons ta tr) (gCons' a r) := by
  intro ρ M H σ c v M' S R h Q k
  obtain ⟨⟨x, M1⟩, e1, h⟩ := Option.bind_eq_some_iff.mp h
  obtain ⟨⟨y, M2⟩, e2, h⟩ := Option.bind_eq_some_iff.mp h
  cases h
  refine ha S R e1 _ fun ρ1 H1 x' S1 m1 r1 => ?_
  refine hr S1 (R.mo m1) e2 _ fun ρ2 H2 y' S2 m2 r2 => ?_
  exact k _ _ _ S2 (m1.trans m2) (RVs.cons (r1.mo m2) r2)
theorem sim_args {r : List V → Hp → VK → Prop} {f : AF} {t : TA} {a : AA} (hr : SimC K cl r f) (ha : SimA K cl t a) : SimE K cl (fun σ H Q => t σ H fun vs H1 => r vs H1 Q) (eArgs f a) := by
  intro ρ M H σ c v M' S R h Q k
  obtain ⟨⟨x, M1⟩, e1, h⟩ := Option.bind_eq_some_iff.mp h
  refine ha S R e1 _ fun ρ1 H1 x' S1 m1 r1 => ?_
  exact hr S1 r1 h _ fun ρ3 H3 z S3 m3 r3 => k _ _ _ S3 (m1.trans m3) r3
theorem sim_if {tt : TT} {ta tb : TE} {t : AT} {a b : AE} (ht : SimT K cl tt t) (ha : SimE K cl ta a) (hb : SimE K cl tb b) : SimE K cl (tIf tt ta tb) (eIf t a b) := by
  intro ρ M H σ c v M' S R h Q k
  obtain ⟨⟨x, M1⟩, e1, h⟩ := Option.bind_eq_some_iff.mp h
  refine ht S R e1 _ fun ρ1 H1 S1 m1 => ?_
  have k' : ∀ ρ' H' w, Sm K cl ρ' M' H' → Mo ρ1 H1 ρ' H' → RV K ρ' H' v w → Q w H' := fun ρ3 H3 z S3 m3 r3 => k _ _ _ S3 (m1.trans m3) r3
  cases x with
  | true => exact ha S1 (R.mo m1) h _ k'
  | false => exact hb S1 (R.mo m1) h _ k'
theorem simc_tup : SimC K cl (fun xs H1 Q => xs.length ≤ sizeLine ∧ ∀ p, H1 p = none → Q (.ref p) (upd H1 p (.tup xs))) fTup := by
  intro ρ M H x c v M' S R h Q k
  unfold fTup at h
  split at h
  · cases h
    refine ⟨by rw [R.length]; exact le_sizeLine (by assumption), fun p hp => ?_⟩
    refine k ρ _ _ (S.side hp) (mo_side hp) ?_
    rw [RV]
    exact ⟨p, c, rfl, .inl upd_same, R.mo (mo_side hp)⟩
  · cases h
theorem simc_lst : SimC K cl (fun xs H1 Q => xs.length ≤ sizeLine ∧ ∀ p, H1 p = none → Q (.ref p) (upd H1 p (.lst xs))) fLst := by
  intro ρ M H x c v M' S R h Q k
  unfold fLst at h
  split at h
  · cases h
    refine ⟨by rw [R.length]; exact le_sizeLine (by assumption), fun p hp => ?_⟩
    have mo : Mo ρ H (ext ρ M.next p) (upd H p (.lst c)) := ⟨fun m b e => by have := S.dom e; unfold ext; rw [if_neg (by omega)]; exact e, keep_new hp⟩
    obtain ⟨S', m, at'⟩ := S.new (o := .lst x) (ho := .lst c) hp ⟨c, upd_same, R.mo mo⟩
    refine k _ _ _ S' m ?_
    rw [RV]
    exact ⟨p, rfl, at'⟩
  · cases h
theorem sim_fld {ta : TE} {a : AE} {f : String} (ha : SimE K cl ta a) : SimE K cl (tFld K ta (Str.ofString f)) (eFld f a) := by
  intro ρ M H σ c v M' S R h Q k
  obtain ⟨⟨x, M1⟩, e1, h⟩ := Option.bind_eq_some_iff.mp h
  refine ha S R e1 _ fun ρ1 H1 x' S1 m1 r1 => ?_
  cases x with
  | ref n =>
    dsimp only at h
    split at h
    · rename_i cn fs en
      have en := AH.ins_eq en
      obtain ⟨y, e3, e4⟩ := Option.map_eq_some_iff.mp h
      cases e4
      rw [RV] at r1
      obtain ⟨ad, rfl, ra⟩ := r1
      obtain ⟨ad', ra', dx, cs, e5, e6, e7, e8⟩ := S1.obj en
      rw [ra] at ra'; cases ra'
      rcases e6.look_lookup (k := f) with ⟨z, _⟩ | ⟨x2, c2, l1, l2, r2⟩
      · rw [e3] at z; cases z
      · rw [e3] at l1; cases l1
        exact ⟨ad, _, dx, cs, c2, rfl, e5, e8, e7 f _ (look_mem e3), l2, k _ _ _ S1 m1 r2⟩
    · cases h
  | _ => cases h
end
end Sy
namespace Sy
open PySem L2
section
variable {K : PySem.W.Frag} {cl : Cle} {X : Cx}
/-! ### tests -/
theorem sim_not {t : TT} {a : AT} (ha : SimT K cl t a) : SimT K cl (tNot t) (qNot a) := by
  intro ρ M H σ c v M' S R h Q k
  obtain ⟨⟨x, M1⟩, e1, h⟩ := Option.bind_eq_some_iff.mp h
  cases h
  exact ha S R e1 _ fun ρ1 H1 S1 m1 => k _ _ S1 m1
theorem sim_and {t u : TT} {a b : AT} (ha : SimT K cl t a) (hb : SimT K cl u b) : SimT K cl (tAnd t u) (qAnd a b) := by
  intro ρ M H σ c v M' S R h Q k
  obtain ⟨⟨x, M1⟩, e1, h⟩ := Option.bind_eq_some_iff.mp h
  refine ha S R e1 _ fun ρ1 H1 S1 m1 => ?_
  cases x with
  | true => exact hb S1 (R.mo m1) h _ fun ρ2 H2 S2 m2 => k _ _ S2 (m1.trans m2)
  | false => cases h; exact k _ _ S1 m1
theorem sim_or {t u : TT} {a b : AT} (ha : SimT K cl t a) (hb : SimT K cl u b) : SimT K cl (tOr t u) (qOr a b) := by
  intro ρ M H σ c v M' S R h Q k
  obtain ⟨⟨x, M1⟩, e1, h⟩ := Option.bind_eq_some_iff.mp h
  refine ha S R e1 _ fun ρ1 H1 S1 m1 => ?_
  cases x with
  | true => cases h; exact k _ _ S1 m1
  | false => exact hb S1 (R.mo m1) h _ fun ρ2 H2 S2 m2 => k _ _ S2 (m1.trans m2)
theorem REs.isEmpty {κ κ' : Type} {f : κ → κ'} {ρ : Rho} {H : Hp} : ∀ {xs : List (κ × AV)} {cs : List (κ' × V)}, REs f K ρ H xs cs → cs.isEmpty = xs.isEmpty
  | _, _, .nil => rfl
  | _, _, .cons _ _ => rfl
theorem RVs.isEmpty {ρ : Rho} {H : Hp} {xs : List AV} {cs : List V} (h : RVs K ρ H xs cs) : cs.isEmpty = xs.isEmpty := by
  cases xs with
  | nil => rw [RVs] at h; rw [h]; rfl
  | cons x xs => rw [RVs] at h; obtain ⟨c, r, rfl, _⟩ := h; rfl
theorem tru_sim {ρ : Rho} {M : AH} {H : Hp} {v : AV} {c : V} {b : Bool} (S : Sm K cl ρ M H) (r : RV K ρ H v c) (h : tru v M = some b) : TruV K c H b := by
  unfold tru at h
  split at h
  · cases h; rw [RV] at r; subst r; rfl
  · cases h; rw [RV] at r; subst r; rfl
  · cases h; rw [RV] at r; subst r; rfl
  · cases h
    rw [RV] at r
    obtain ⟨a, cs, rfl, e, q⟩ := r
    exact .inr (.inl ⟨cs, e.sqt, by rw [q.isEmpty]⟩)
  · rw [RV] at r
    obtain ⟨a, rfl, e⟩ := r
    split at h
    · rename_i xs g
      cases h
      obtain ⟨a', e', cs, g1, g2⟩ := S.obj g
      rw [e] at e'; cases e'
      exact .inl ⟨cs, .inl (.inl g1), by rw [g2.isEmpty]⟩
    · rename_i xs g
      cases h
      obtain ⟨a', e', cs, g1, g2⟩ := S.obj g
      rw [e] at e'; cases e'
      exact .inr (.inr ⟨cs, g1, by rw [g2.isEmpty]⟩)
    · cases h
  · cases h
theorem sim_tru {ta : TE} {a : AE} (ha : SimE K cl ta a) : SimT K cl (fun σ H Q => ta σ H fun x H' => ∃ k, TruV K x H' k ∧ Q k H') (qTru a) := by
  intro ρ M H σ c v M' S R h Q k
  obtain ⟨⟨x, M1⟩, e1, h⟩ := Option.bind_eq_some_iff.mp h
  obtain ⟨b, e2, e3⟩ := Option.map_eq_some_iff.mp h
  cases e3
  exact ha S R e1 _ fun ρ1 H1 y S1 m1 r1 => ⟨_, tru_sim S1 r1 e2, k _ _ S1 m1⟩
/-! ### statements -/
theorem sim_seq {t u : TS} {a b : AS} (ha : SimS K cl t a) (hb : SimS K cl u b) : SimS K cl (tSeq t u) (sSeq a b) := by
  intro ρ M H σ c f σ' M' S R h D k
  obtain ⟨⟨g, σ1, M1⟩, e1, h⟩ := Option.bind_eq_some_iff.mp h
  refine ha S R e1 _ fun ρ1 H1 c1 S1 m1 R1 => ?_
  cases g with
  | nx => exact hb S1 R1 h D fun ρ2 H2 c2 S2 m2 R2 => k _ _ _ S2 (m1.trans m2) R2
  | bk => cases h; exact k _ _ _ S1 m1 R1
  | ct => cases h; exact k _ _ _ S1 m1 R1
  | rt v => cases h; exact k _ _ _ S1 m1 R1
theorem sim_next : SimS K cl tNext sNext := by
  intro ρ M H σ c f σ' M' S R h D k
  cases h
  exact k _ _ _ S (Mo.refl _ _) R
theorem sim_break : SimS K cl tBreak sBreak := by
  intro ρ M H σ c f σ' M' S R h D k
  cases h
  exact k _ _ _ S (Mo.refl _ _) R
theorem sim_cont : SimS K cl tCont sCont := by
  intro ρ M H σ c f σ' M' S R h D k
  cases h
  exact k _ _ _ S (Mo.refl _ _) R
theorem sim_never : SimS K cl tNever sNever := by
  intro ρ M H σ c f σ' M' S R h D k
  cases h
theorem sim_ret {ta : TE} {a : AE} (ha : SimE K cl ta a) : SimS K cl (tRet ta) (sRet a) := by
  intro ρ M H σ c f σ' M' S R h D k
  obtain ⟨⟨x, M1⟩, e1, h⟩ := Option.bind_eq_some_iff.mp h
  cases h
  exact ha S R e1 _ fun ρ1 H1 w S1 m1 r1 => k _ _ _ S1 m1 (R.mo m1) w r1
theorem sim_retN : SimS K cl tRetN sRetN := by
  intro ρ M H σ c f σ' M' S R h D k
  cases h
  exact k _ _ _ S (Mo.refl _ _) R .non (by rw [RV])
theorem sim_expr {ta : TE} {a : AE} (ha : SimE K cl ta a) : SimS K cl (tDrop ta) (sExpr a) := by
  intro ρ M H σ c f σ' M' S R h D k
  obtain ⟨⟨x, M1⟩, e1, h⟩ := Option.bind_eq_some_iff.mp h
  cases h
  exact ha S R e1 _ fun ρ1 H1 w S1 m1 r1 => k _ _ _ S1 m1 (R.mo m1)
def SimG (K : PySem.W.Frag) (cl : Cle) (g : TG) (a : AG) : Prop := ∀ ⦃ρ M H x y σ c σ'⦄, Sm K cl ρ M H → RV K ρ H x y → RS K ρ H σ c → a x σ = some σ' → ∀ Q : St → Hp → Prop, (∀ c', RS K ρ H σ' c' → Q c' H) → g y c H Q
theorem sim_name {i : Nat} : SimG K cl (gName i) (aName i) := by
  intro ρ M H x y σ c σ' S r R h Q k
  cases h
  exact k _ (RS.set (x := some x) (y := some y) r i R)
theorem sim_asg {ta : TE} {a : AE} {g : TG} {ag : AG} (ha : SimE K cl ta a) (hg : SimG K cl g ag) : SimS K cl (tAsg ta g) (sAsg a ag) := by
  intro ρ M H σ c f σ' M' S R h D k
  obtain ⟨⟨x, M1⟩, e1, h⟩ := Option.bind_eq_some_iff.mp h
  obtain ⟨σ1, e2, h⟩ := Option.bind_eq_some_iff.mp h
  cases h
  exact ha S R e1 _ fun ρ1 H1 w S1 m1 r1 => hg S1 r1 (R.mo m1) e2 _ fun c' R' => k _ _ _ S1 m1 R'
theorem sim_ifs {tt : TT} {t u : TS} {q : AT} {a b : AS} (hq : SimT K cl tt q) (ha : SimS K cl t a) (hb : SimS K cl u b) : SimS K cl (tIfS tt t u) (sIf q a b) := by
  intro ρ M H σ c f σ' M' S R h D k
  obtain ⟨⟨x, M1⟩, e1, h⟩ := Option.bind_eq_some_iff.mp h
  refine hq S R e1 _ fun ρ1 H1 S1 m1 => ?_
  cases x with
  | true => exact ha S1 (R.mo m1) h D fun ρ2 H2 c2 S2 m2 R2 => k _ _ _ S2 (m1.trans m2) R2
  | false => exact hb S1 (R.mo m1) h D fun ρ2 H2 c2 S2 m2 R2 => k _ _ _ S2 (m1.trans m2) R2
/-- what a store to a field asks of the classes -/
def FldOk (K : PySem.W.Frag) (cl : Cle) (cs : List String) (f : String) : Prop := ∀ c, c ∈ cs → NoAttr K (cl c) (Str.ofString f)
theorem put_mem {κ α : Type} [DecidableEq κ] {k : κ} {v : α} {g : κ} {w : α} : ∀ {fs : List (κ × α)}, (g, w) ∈ put fs k v → g = k ∨ (g, w) ∈ fs
  | [], h => by
    unfold put at h
    have := List.mem_singleton.mp h
    cases this
    exact .inl rfl
  | (a, x) :: r, h => by
    unfold put at h
    by_cases q : a = k
    · rw [if_pos q] at h
      rcases List.mem_cons.mp h with e | e
      · cases e; exact .inl q
      · exact .inr (List.mem_cons_of_mem _ e)
    · rw [if_neg q] at h
      rcases List.mem_cons.mp h with e | e
      · cases e; exact .inr List.mem_cons_self
      · rcases put_mem e with e | e
        · exact .inl e
        · exact .inr (List.mem_cons_of_mem _ e)
theorem fldPut_sim {ρ : Rho} {M M' : AH} {H : Hp} {cs : List String} {f : String} {v y : AV} {c d : V} (S : Sm K cl ρ M H) (F : FldOk K cl cs f) (r : RV K ρ H v c) (ry : RV K ρ H y d) (h : fldPut cs f M v y = some M') :
    ∃ a C dx fs, c = .ref a ∧ H a = some (.ins C dx fs) ∧ Cls K C ∧ NoAttr K C (Str.ofString f) ∧ fs.length < 1000 ∧ Sm K cl ρ M' (upd H a (.ins C dx (putF (Str.ofString f) d fs))) ∧ Mo ρ H ρ (upd H a (.ins C dx (putF (Str.ofString f) d fs))) ∧ (∀ n c', v = .ref n → (M.ins n).map (·.1) = some c' → C = cl c') := by
  unfold fldPut at h
  cases v with
  | ref n =>
    dsimp only at h
    split at h
    · rename_i cn fs en0
      have en := AH.ins_eq en0
      split at h
      · rename_i hc
        cases h
        rw [RV] at r
        obtain ⟨a, rfl, ra⟩ := r
        obtain ⟨a', ra', dx, gs, e5, e6, e7, e8⟩ := S.obj en
        rw [ra] at ra'
        cases ra'
        have hl : gs.length = fs.length := (Paired.length e6).symm
        have na : NoAttr K (cl cn) (Str.ofString f) := F cn (by simpa using hc.1)
        have hi : ∀ u, H a = some u → ¬ Imm u := fun u e => by rw [e5] at e; cases e; exact fun z => z
        have mo : Mo ρ H ρ (upd H a (.ins (cl cn) dx (putF (Str.ofString f) d gs))) := mo_upd hi
        have hn : ∀ g w, (g, w) ∈ put fs f y → NoAttr K (cl cn) (Str.ofString g) := fun g w hm => by
          rcases put_mem hm with e | e
          · rw [e]; exact na
          · exact e7 g w e
        obtain ⟨S', m'⟩ := S.upd (ho := .ins (cl cn) dx (putF (Str.ofString f) d gs)) en ra (o' := .ins cn (put fs f y)) ⟨dx, _, upd_same, REs.mo mo (REs.putF ry e6), hn, e8⟩
        exact ⟨a, _, dx, gs, rfl, e5, e8, na, by rw [hl]; exact hc.2, S', m', fun m c' z q => by cases z; rw [en0] at q; cases q; rfl⟩
      · cases h
    · cases h
  | _ => cases h
theorem sim_fldSet {cs : List String} {f : String} {ta tv : TE} {a y : AE} (F : FldOk K cl cs f) (ha : SimE K cl ta a) (hy : SimE K cl tv y) : SimS K cl (sFld K ta tv (Str.ofString f)) (sFldSet cs f a y) := by
  intro ρ M H σ c fl σ' M' S R h D k
  obtain ⟨⟨x, M1⟩, e1, h⟩ := Option.bind_eq_some_iff.mp h
  obtain ⟨⟨z, M2⟩, e2, h⟩ := Option.bind_eq_some_iff.mp h
  obtain ⟨M3, e3, h⟩ := Option.bind_eq_some_iff.mp h
  cases h
  refine hy S R e1 _ fun ρ1 H1 w S1 m1 r1 => ?_
  refine ha S1 (R.mo m1) e2 _ fun ρ2 H2 w2 S2 m2 r2 => ?_
  obtain ⟨ad, C, dx, gs, q1, q2, q3, q4, q5, S3, m3, _⟩ := fldPut_sim S2 F r2 (r1.mo m2) e3
  exact ⟨ad, C, dx, gs, q1, q2, q3, q4, q5, k _ _ _ S3 ((m1.trans m2).trans m3) (R.mo ((m1.trans m2).trans m3))⟩
theorem sim_fldAug {cs : List String} {f : String} {ta tv : TE} {a y : AE} {rd : R2} {op : A2} (F : FldOk K cl cs f) (ha : SimE K cl ta a) (hy : SimE K cl tv y) (ho : Sim2 K cl rd op) : SimS K cl (sFldAug K ta tv rd (Str.ofString f)) (sFldAug' cs f op a y) := by
  intro ρ M H σ c fl σ' M' S R h D k
  obtain ⟨⟨x, M1⟩, e1, h⟩ := Option.bind_eq_some_iff.mp h
  refine ha S R e1 _ fun ρ1 H1 x' S1 m1 r1 => ?_
  cases x with
  | ref n =>
    dsimp only at h
    split at h
    · rename_i cn fs en
      have en := AH.ins_eq en
      obtain ⟨x0, e2, h⟩ := Option.bind_eq_some_iff.mp h
      obtain ⟨⟨z, M2⟩, e3, h⟩ := Option.bind_eq_some_iff.mp h
      obtain ⟨⟨z2, M3⟩, e4, h⟩ := Option.bind_eq_some_iff.mp h
      split at h
      case isFalse => cases h
      rename_i hcc
      obtain ⟨M4, e5, h⟩ := Option.bind_eq_some_iff.mp h
      cases h
      have r1' := r1
      rw [RV] at r1
      obtain ⟨ad, rfl, ra⟩ := r1
      obtain ⟨ad', ra', dx, gs, g1, g2, g3, g4⟩ := S1.obj en
      rw [ra] at ra'; cases ra'
      rcases g2.look_lookup (k := f) with ⟨q, _⟩ | ⟨x2, c2, l1, l2, r2⟩
      · rw [e2] at q; cases q
      · rw [e2] at l1; cases l1
        refine ⟨ad, _, dx, gs, c2, rfl, g1, g4, g3 f _ (look_mem e2), l2, ?_⟩
        refine hy S1 (R.mo m1) e3 _ fun ρ2 H2 w2 S2 m2 rz => ?_
        refine ho S2 (r2.mo m2) rz e4 _ fun ρ3 H3 w3 S3 m3 r3 => ?_
        obtain ⟨a3, C3, dx3, gs3, q1, q2, q3, q4, q5, S4, m4, q6⟩ := fldPut_sim S3 F ((r1'.mo m2).mo m3) r3 e5
        cases q1
        have hC : C3 = cl cn := q6 n cn rfl hcc
        subst hC
        exact ⟨dx3, gs3, q2, q5, k _ _ _ S4 (((m1.trans m2).trans m3).trans m4) (R.mo (((m1.trans m2).trans m3).trans m4))⟩
    · cases h
  | _ => cases h

/-! ### calls -/
theorem sim_call {m : AF} {E : XK} {t : TA} {a : AA} (ha : SimA K cl t a) : SimE K cl (tCall (spA K cl m) [] E t) (eArgs m a) := by
  intro ρ M H σ c v M' S R h Q k
  obtain ⟨⟨x, M1⟩, e1, h⟩ := Option.bind_eq_some_iff.mp h
  refine ha S R e1 _ fun ρ1 H1 w S1 m1 r1 => ?_
  rw [List.append_nil]
  exact ⟨ρ1, M1, x, v, M', S1, r1, h, fun ρ2 H2 z S2 m2 r2 => k _ _ _ S2 (m1.trans m2) r2⟩
theorem sim_meth {tbl : String → Option AF} {nm : String} {E : XK} {ta : TE} {t : TA} {a : AE} {r : AA} (ha : SimE K cl ta a) (hr : SimA K cl t r) :
    SimE K cl (fun σ H Q => ∃ i : { p : String × AF // tbl p.1 = some p.2 }, tMeth (cl i.1.1) (Str.ofString nm) (spA K cl i.1.2) [] E ta t σ H Q) (eMeth tbl nm a r) := by
  intro ρ M H σ c v M' S R h Q k
  obtain ⟨⟨x, M1⟩, e1, h⟩ := Option.bind_eq_some_iff.mp h
  cases x with
  | ref n =>
    dsimp only at h
    split at h
    · rename_i cn fs en
      have en := AH.ins_eq en
      split at h
      · rename_i m e2 e3
        obtain ⟨⟨y, M2⟩, e4, h⟩ := Option.bind_eq_some_iff.mp h
        refine ⟨⟨(cn, m), e2⟩, ?_⟩
        refine ha S R e1 _ fun ρ1 H1 w S1 m1 r1 => ?_
        have r1' := r1
        rw [RV] at r1
        obtain ⟨ad, rfl, ra⟩ := r1
        obtain ⟨ad', ra', dx, gs, g1, g2, g3, g4⟩ := S1.obj en
        rw [ra] at ra'; cases ra'
        refine ⟨ad, dx, gs, rfl, g1, ?_, ?_⟩
        · rcases g2.look_lookup (k := nm) with ⟨_, q⟩ | ⟨x2, c2, l1, l2, r2⟩
          · exact q
          · rw [e3] at l1; cases l1
        · refine hr S1 (R.mo m1) e4 _ fun ρ2 H2 w2 S2 m2 r2 => ?_
          rw [List.append_nil]
          exact ⟨ρ2, M2, .ref n :: y, v, M', S2, RVs.cons (r1'.mo m2) r2, h, fun ρ3 H3 z S3 m3 r3 => k _ _ _ S3 ((m1.trans m2).trans m3) r3⟩
      · cases h
    · cases h
  | _ => cases h
theorem sim_make {m : AF} {cn : String} {E : XK} {t : TA} {a : AA} (hc : Cls K (cl cn)) (ha : SimA K cl t a) : SimE K cl (tMake (cl cn) (spA K cl m) [] E t) (eMake cn m a) := by
  intro ρ M H σ c v M' S R h Q k
  obtain ⟨⟨x, M1⟩, e1, h⟩ := Option.bind_eq_some_iff.mp h
  obtain ⟨⟨y, M2⟩, e2, h⟩ := Option.bind_eq_some_iff.mp h
  dsimp only at h e2
  split at h
  case isFalse => cases h
  rename_i hy
  cases h
  refine ha S R e1 _ fun ρ1 H1 w S1 m1 r1 => ?_
  intro p dx hp hd ne
  rw [List.append_nil]
  have S2 := S1.side (a := dx) (ho := .own p) hd
  have n2 : Mo ρ1 H1 ρ1 (upd H1 dx (.own p)) := mo_side hd
  have hp2 : upd H1 dx (.own p) p = none := by rw [upd_ne (fun z => ne z.symm)]; exact hp
  obtain ⟨S3, m3, at3⟩ := S2.new (o := .ins cn []) (ho := .ins (cl cn) dx []) hp2 ⟨dx, [], upd_same, .nil, fun f v hm => by simp at hm, hc⟩
  refine ⟨_, _, .ref M1.next :: x, y, _, S3, RVs.cons ?_ ((r1.mo n2).mo m3), e2, fun ρ4 H4 z S4 m4 r4 => ⟨?_, ?_⟩⟩
  · rw [RV]; exact ⟨p, rfl, at3⟩
  · subst hy; rw [RV] at r4; exact r4
  · refine k _ _ _ S4 (((m1.trans n2).trans m3).trans m4) ?_
    rw [RV]
    exact ⟨p, rfl, m4.le _ _ at3⟩
theorem sim_dnewT (hP : cl.P = X.prog) (hw : cl.w = X.w) : SimE K cl (tXNew X) eDNewT := by
  intro ρ M H σ c v M' S R h Q k
  cases h
  intro p hp
  rw [← hP, ← hw]
  obtain ⟨S3, m3, at3⟩ := S.new (o := .dT []) (ho := xdO cl.P cl.w p []) hp ⟨[], upd_same, .nil⟩
  exact k _ _ _ S3 m3 (by rw [RV]; exact ⟨p, rfl, at3⟩)
theorem sim_dnewK : SimE K cl tDNewK eDNewK := by
  intro ρ M H σ c v M' S R h Q k
  cases h
  intro p hp
  obtain ⟨S3, m3, at3⟩ := S.new (o := .dK []) (ho := .dK []) hp ⟨[], upd_same, .nil⟩
  exact k _ _ _ S3 m3 (by rw [RV]; exact ⟨p, rfl, at3⟩)

/-! ### loops -/
structure AIt where
  all : List AV
  ok : AH → Bool
abbrev AI := ASt → AH → Option (AIt × AH)
def ItR (K : PySem.W.Frag) (cl : Cle) (ρ : Rho) (H : Hp) (J : It) (I : AIt) : Prop := ∀ ⦃ρ1 M1 H1⦄ (i : Nat), Sm K cl ρ1 M1 H1 → Mo ρ H ρ1 H1 → I.ok M1 = true →
  (I.all[i]? = none → J.stop i H1) ∧ ∀ x, I.all[i]? = some x → J.go i H1 ∧ ∀ y H2, J.yld i H1 y H2 → ∃ ρ2, Sm K cl ρ2 M1 H2 ∧ Mo ρ1 H1 ρ2 H2 ∧ RV K ρ2 H2 x y
def SimI (K : PySem.W.Frag) (cl : Cle) (wi : TI) (it : AI) : Prop := ∀ ⦃ρ M H σ c I M'⦄, Sm K cl ρ M H → RS K ρ H σ c → it σ M = some (I, M') → ∀ R : It → Hp → Prop, (∀ ρ' H' J, Sm K cl ρ' M' H' → Mo ρ H ρ' H' → ItR K cl ρ' H' J I → R J H') → wi c H R
def forGo (g : AG) (body : AS) (ok : AH → Bool) : List AV → AS
  | [], σ, M => if ok M = true then some (.nx, σ, M) else none
  | x :: r, σ, M => if ok M = true then (g x σ).bind fun σ1 => (body σ1 M).bind fun p => match p.1 with
      | .nx => forGo g body ok r p.2.1 p.2.2
      | .ct => forGo g body ok r p.2.1 p.2.2
      | .bk => some (.nx, p.2)
      | .rt v => some (.rt v, p.2)
    else none
def sFor (it : AI) (g : AG) (body : AS) : AS := fun σ M => (it σ M).bind fun p => forGo g body p.1.ok p.1.all σ p.2
theorem sim_for {wi : TI} {it : AI} {g : TG} {ag : AG} {tb : TS} {b : AS} (hi : SimI K cl wi it) (hg : SimG K cl g ag) (hb : SimS K cl tb b) : SimS K cl (tFor wi g tb) (sFor it ag b) := by
  intro ρ M H σ c f σ' M' S R h D k
  obtain ⟨⟨I, M1⟩, e1, h⟩ := Option.bind_eq_some_iff.mp h
  refine hi S R e1 _ fun ρ1 H1 J S1 m1 hJ => ?_
  refine ⟨fun i m c' H' => ∃ ρ2 M2 σ2, Sm K cl ρ2 M2 H' ∧ Mo ρ1 H1 ρ2 H' ∧ RS K ρ2 H' σ2 c' ∧ m = (I.all.drop i).length ∧ forGo ag b I.ok (I.all.drop i) σ2 M2 = some (f, σ', M'),
    ⟨_, ρ1, M1, σ, S1, Mo.refl _ _, R.mo m1, rfl, h⟩, ?_⟩
  rintro i m c2 H2 ⟨ρ2, M2, σ2, S2, m2, R2, rfl, h2⟩
  cases hx : I.all[i]? with
  | none =>
    have hd : I.all.drop i = [] := List.drop_eq_nil_of_le (List.getElem?_eq_none_iff.mp hx)
    rw [hd] at h2
    unfold forGo at h2
    split at h2
    · rename_i hok
      cases h2
      exact .inl ⟨(hJ i S2 m2 hok).1 hx, k _ _ _ S2 (m1.trans m2) R2⟩
    · cases h2
  | some x =>
    have hlt := (List.getElem?_eq_some_iff.mp hx).1
    have hd : I.all.drop i = x :: I.all.drop (i + 1) := by
      rw [List.drop_eq_getElem_cons hlt]
      rw [(List.getElem?_eq_some_iff.mp hx).2]
    rw [hd] at h2
    unfold forGo at h2
    split at h2
    case isFalse => cases h2
    rename_i hok
    obtain ⟨σ3, e3, h2⟩ := Option.bind_eq_some_iff.mp h2
    obtain ⟨⟨f4, σ4, M4⟩, e4, h2⟩ := Option.bind_eq_some_iff.mp h2
    obtain ⟨go, yld⟩ := (hJ i S2 m2 hok).2 x hx
    refine .inr ⟨go, fun c5 H5 => ∃ ρ5, Sm K cl ρ5 M4 H5 ∧ Mo ρ1 H1 ρ5 H5 ∧ RS K ρ5 H5 σ4 c5 ∧ forGo ag b I.ok (I.all.drop (i + 1)) σ4 M4 = some (f, σ', M'), ?_, ?_⟩
    · rintro c5 H5 ⟨ρ5, S5, m5, R5, h5⟩
      exact ⟨(I.all.drop (i + 1)).length, by rw [hd, List.length_cons]; omega, ρ5, M4, σ4, S5, m5, R5, rfl, h5⟩
    · intro y H3 hy
      obtain ⟨ρ3, S3, m3, r3⟩ := yld y H3 hy
      refine hg S3 r3 (R2.mo m3) e3 _ fun c4 R4 => ?_
      refine hb S3 R4 e4 _ fun ρ6 H6 c6 S6 m6 R6 => ?_
      have mm := (m2.trans m3).trans m6
      cases f4 with
      | nx => exact ⟨ρ6, S6, mm, R6, h2⟩
      | ct => exact ⟨ρ6, S6, mm, R6, h2⟩
      | bk => cases h2; exact k _ _ _ S6 (m1.trans mm) R6
      | rt v => cases h2; exact k _ _ _ S6 (m1.trans mm) R6
def itList (a : AE) : AI := fun σ M => (a σ M).bind fun p => match p.1 with
  | .ref n => (p.2.lst n).map fun xs => (⟨xs, fun M => M.lst n = some xs⟩, p.2)
  | .ro xs => some (⟨xs, fun _ => true⟩, p.2)
  | .tup xs => some (⟨xs, fun _ => true⟩, p.2)
  | _ => none
theorem PI.or {tg e : Expr} {t u : TI} (h : PI X tg e t) (h' : PI X tg e u) : PI X tg e (fun σ H R => t σ H R ∨ u σ H R) := ⟨fun pins s σ H R I q => q.elim (h.run pins s σ H R I) (h'.run pins s σ H R I)⟩
theorem simi_list {ta : TE} {a : AE} (ha : SimE K cl ta a) : SimI K cl (fun σ H R => iList K ta σ H R ∨ iTup K ta σ H R) (itList a) := by
  intro ρ M H σ c I M' S R h Q k
  obtain ⟨⟨x, M1⟩, e1, h⟩ := Option.bind_eq_some_iff.mp h
  have go : ∀ {H2 : Hp} {ρ2 : Rho} {ad : Addr} {xs : List AV} {cs : List V} (i : Nat), SqL K H2 ad cs → RVs K ρ2 H2 xs cs → ∀ {M1}, Sm K cl ρ2 M1 H2 →
      (xs[i]? = none → (Itl K ad).stop i H2) ∧ ∀ x, xs[i]? = some x → (Itl K ad).go i H2 ∧ ∀ y H3, (Itl K ad).yld i H2 y H3 → ∃ ρ3, Sm K cl ρ3 M1 H3 ∧ Mo ρ2 H2 ρ3 H3 ∧ RV K ρ3 H3 x y := by
    intro H2 ρ2 ad xs cs i sq rs M1 S2
    refine ⟨fun e => ⟨cs, sq, ?_⟩, fun x e => ?_⟩
    · have := List.getElem?_eq_none_iff.mp e; rw [rs.length]; exact this
    · obtain ⟨c, ec, rc⟩ := rs.get e
      refine ⟨⟨cs, c, sq, ec⟩, fun y H3 hy => ?_⟩
      obtain ⟨rfl, hy⟩ := hy
      have := hy cs sq
      rw [ec] at this; cases this
      exact ⟨ρ2, S2, Mo.refl _ _, rc⟩
  cases x with
  | ref n =>
    dsimp only at h
    obtain ⟨xs, en, h⟩ := Option.map_eq_some_iff.mp h
    cases h
    refine .inl (ha S R e1 _ fun ρ1 H1 w S1 m1 r1 => ?_)
    rw [RV] at r1
    obtain ⟨ad, rfl, ra⟩ := r1
    obtain ⟨ad', ra', cs, g1, g2⟩ := S1.obj (AH.lst_eq en)
    rw [ra] at ra'; cases ra'
    refine ⟨ad, rfl, ⟨cs, .inl (.inl g1)⟩, k _ _ _ S1 m1 fun ρ2 M2 H2 i S2 m2 ok => ?_⟩
    have ok : M2.lst n = some xs := by simpa using ok
    obtain ⟨ad', ra', cs2, g3, g4⟩ := S2.obj (AH.lst_eq ok)
    rw [m2.le _ _ ra] at ra'; cases ra'
    exact go i (.inl (.inl g3)) g4 S2
  | ro xs =>
    cases h
    refine .inl (ha S R e1 _ fun ρ1 H1 w S1 m1 r1 => ?_)
    rw [RV] at r1
    obtain ⟨ad, cs, rfl, sq, rs⟩ := r1
    refine ⟨ad, rfl, ⟨cs, sq.sql⟩, k _ _ _ S1 m1 fun ρ2 M2 H2 i S2 m2 ok => ?_⟩
    exact go i (sq.mo m2).sql (rs.mo m2) S2
  | tup xs =>
    cases h
    refine .inr (ha S R e1 _ fun ρ1 H1 w S1 m1 r1 => ?_)
    rw [RV] at r1
    obtain ⟨ad, cs, rfl, sq, rs⟩ := r1
    refine ⟨ad, rfl, ⟨cs, sq.sqt⟩, k _ _ _ S1 m1 fun ρ2 M2 H2 i S2 m2 ok => ?_⟩
    have sq2 := (sq.mo m2).sqt
    have rs2 := rs.mo m2
    refine ⟨fun e => ⟨cs, sq2, ?_⟩, fun x e => ?_⟩
    · have := List.getElem?_eq_none_iff.mp e; rw [rs.length]; exact this
    · obtain ⟨c, ec, rc⟩ := rs2.get e
      refine ⟨⟨cs, c, sq2, ec⟩, fun y H3 hy => ?_⟩
      obtain ⟨rfl, hy⟩ := hy
      have := hy cs sq2
      rw [ec] at this; cases this
      exact ⟨ρ2, S2, Mo.refl _ _, rc⟩
  | _ => cases h
end
end Sy
namespace Sy
open PySem L2
/-! ### operators on values -/
def ii (g : Int → Int → AV) : A2 := fun x y M => match x, y with | .int i, .int j => some (g i j, M) | _, _ => none
def iiC (C : Int → Int → Prop) [∀ i j, Decidable (C i j)] (g : Int → Int → AV) : A2 := fun x y M => match x, y with | .int i, .int j => if C i j then some (g i j, M) else none | _, _ => none
def oSub : A2 := ii fun i j => .int (i - j)
def oAddI : A2 := ii fun i j => .int (i + j)
def oMul : A2 := iiC (fun i j => (-(2 ^ 64) < i ∧ i < 2 ^ 64) ∨ (-(2 ^ 64) < j ∧ j < 2 ^ 64)) fun i j => .int (i * j)
def oDiv : A2 := iiC (fun i j => 0 < j ∧ j < 1073741824) fun i j => .int (i / j)
def oMod : A2 := iiC (fun i j => 0 < j) fun i j => .int (i % j)
def oLt : A2 := ii fun i j => .bl (decide (i < j))
def oLe : A2 := ii fun i j => .bl (decide (i ≤ j))
def oGt : A2 := ii fun i j => .bl (decide (j < i))
def oGe : A2 := ii fun i j => .bl (decide (j ≤ i))
def oAdd : A2 := fun x y M => match x, y with
  | .int i, .int j => some (.int (i + j), M)
  | .tup xs, .tup ys => if xs.length + ys.length ≤ 100000 then some (.tup (xs ++ ys), M) else none
  | .ref n, .ref m => match M.lst n, M.lst m with
    | some xs, some ys => if xs.length + ys.length ≤ 100000 then some (.ref M.next, M.new (.lst (xs ++ ys))) else none
    | _, _ => none
  | _, _ => none
def oIsN : A2 := fun x y M => if y = .non then some (.bl (decide (x = .non)), M) else none
def oNotN : A2 := fun x y M => if y = .non then some (.bl (!decide (x = .non)), M) else none
def datL (f : AV → Option PyData) : List AV → Option (List PyData)
  | [] => some []
  | x :: xs => (f x).bind fun d => (datL f xs).bind fun ds => some (d :: ds)
def dat : Nat → AH → AV → Option PyData
  | 0, _, _ => none
  | k + 1, M, v => match v with
    | .non => some .none
    | .bl b => some (.bool b)
    | .int i => some (.int i)
    | .str x => some (.str (Str.ofString x))
    | .tup xs => (datL (dat k M) xs).map .tuple
    | .ro xs => (datL (dat k M) xs).map .list
    | .ref n => (M.lst n).bind fun xs => (datL (dat k M) xs).map .list
def oEq : A2 := fun x y M => (dat 8 M x).bind fun d => (dat 8 M y).bind fun e => some (.bl (PyData.eqv d e), M)
def oNe : A2 := fun x y M => (dat 8 M x).bind fun d => (dat 8 M y).bind fun e => some (.bl (!PyData.eqv d e), M)
def AV.key : AV → Option AK
  | .int i => some (.i i)
  | .str x => some (.s x)
  | _ => none
def keysOf : List AV → Option (List AK)
  | [] => some []
  | x :: xs => (x.key).bind fun k => (keysOf xs).bind fun ks => some (k :: ks)
def dkO : Option AO → Option (List (AK × AV))
  | some (.dK kvs) => some kvs
  | some (.lK kvs) => some kvs
  | _ => none
def dtO : Option AO → Option (List (List AK × AV))
  | some (.dT kvs) => some kvs
  | some (.lT kvs) => some kvs
  | _ => none
def keyT : AV → Option (List AK)
  | .tup ks => keysOf ks
  | _ => none
/-- what a dict holds at a key -/
def dLook (o : Option AO) (k : AV) : Option (Option AV) := match dkO o with
  | some kvs => (AV.key k).map fun k => look kvs k
  | none => (dtO o).bind fun kvs => (keyT k).map fun ks => look kvs ks
def dGet (M : AH) (d k : AV) : Option (Option AV) := match d with
  | .ref n => dLook (M.get n) k
  | _ => none
def dPut (M : AH) (d k v : AV) : Option AH := match d with
  | .ref n => match M.get n with
    | some (.dK kvs) => (AV.key k).bind fun k => if kvs.length < 100000 then some (M.set n (.dK (putM kvs k v))) else none
    | some (.dT kvs) => (keyT k).bind fun ks => if kvs.length < 100000 then some (M.set n (.dT (putM kvs ks v))) else none
    | _ => none
  | _ => none
/-- x[i], x a list or a tuple -/
def oIx : A2 := fun x y M => match y with
  | .int i => match x with
    | .tup xs => (atI xs i).map fun v => (v, M)
    | .ref n => (M.lst n).bind fun xs => (atI xs i).map fun v => (v, M)
    | _ => none
  | _ => none
def oDget : A2 := fun x y M => (dGet M x y).bind fun o => o.map fun v => (v, M)
def oIn : A2 := fun x y M => (dGet M y x).map fun o => (.bl o.isSome, M)
def oNotIn : A2 := fun x y M => (dGet M y x).map fun o => (.bl (!o.isSome), M)

section
variable {K : PySem.W.Frag} {cl : Cle} {X : Cx}
theorem sim_ii {g : Int → Int → V} {g' : Int → Int → AV} (h : ∀ i j ρ H, RV K ρ H (g' i j) (g i j)) : Sim2 K cl (rI0 g) (ii g') := by
  intro ρ M H x y c d v M' S r s h' Q k
  unfold ii at h'
  split at h'
  · cases h'
    rw [RV] at r s
    exact ⟨_, _, r, s, k _ _ _ S (Mo.refl _ _) (h _ _ _ _)⟩
  · cases h'
theorem sim_iiC {C C' : Int → Int → Prop} [∀ i j, Decidable (C' i j)] {g : Int → Int → V} {g' : Int → Int → AV} (hC : ∀ i j, C' i j → C i j) (h : ∀ i j ρ H, RV K ρ H (g' i j) (g i j)) : Sim2 K cl (rI C g) (iiC C' g') := by
  intro ρ M H x y c d v M' S r s h' Q k
  unfold iiC at h'
  split at h'
  · split at h'
    · cases h'
      rw [RV] at r s
      exact ⟨_, _, r, s, hC _ _ (by assumption), k _ _ _ S (Mo.refl _ _) (h _ _ _ _)⟩
    · cases h'
  · cases h'
theorem rv_int {ρ : Rho} {H : Hp} (i : Int) : RV K ρ H (.int i) (.int i) := by rw [RV]
theorem rv_bl {ρ : Rho} {H : Hp} (i : Bool) : RV K ρ H (.bl i) (.bl i) := by rw [RV]
theorem rv_non {ρ : Rho} {H : Hp} : RV K ρ H .non .non := by rw [RV]
theorem rv_str {ρ : Rho} {H : Hp} (x : String) : RV K ρ H (.str x) (.str (Str.ofString x)) := by rw [RV]
theorem sim_sub : Sim2 K cl (rI0 fun i j => .int (i - j)) oSub := sim_ii fun _ _ _ _ => rv_int _
theorem sim_addI : Sim2 K cl (rI0 fun i j => .int (i + j)) oAddI := sim_ii fun _ _ _ _ => rv_int _
theorem sim_mul : Sim2 K cl (rI CMul fun i j => .int (i * j)) oMul := sim_iiC (fun _ _ h => h) fun _ _ _ _ => rv_int _
theorem sim_div : Sim2 K cl (rI CDiv fun i j => .int (i / j)) oDiv := sim_iiC (fun _ _ h => h) fun _ _ _ _ => rv_int _
theorem sim_mod : Sim2 K cl (rI (fun _ j => 0 < j) fun i j => .int (i % j)) oMod := sim_iiC (fun _ _ h => h) fun _ _ _ _ => rv_int _
theorem sim_lt : Sim2 K cl (rI0 fun i j => .bl (decide (i < j))) oLt := sim_ii fun _ _ _ _ => rv_bl _
theorem sim_le : Sim2 K cl (rI0 fun i j => .bl (decide (i ≤ j))) oLe := sim_ii fun _ _ _ _ => rv_bl _
theorem sim_gt : Sim2 K cl (rI0 fun i j => .bl (decide (j < i))) oGt := sim_ii fun _ _ _ _ => rv_bl _
theorem sim_ge : Sim2 K cl (rI0 fun i j => .bl (decide (j ≤ i))) oGe := sim_ii fun _ _ _ _ => rv_bl _
theorem ref_lst {ρ : Rho} {M : AH} {H : Hp} {n : Nat} {xs : List AV} {c : V} (S : Sm K cl ρ M H) (r : RV K ρ H (.ref n) c) (h : M.lst n = some xs) : ∃ a cs, c = .ref a ∧ ρ n = some a ∧ H a = some (.lst cs) ∧ RVs K ρ H xs cs := by
  rw [RV] at r
  obtain ⟨a, e, ra⟩ := r
  obtain ⟨a', ra', cs, g1, g2⟩ := S.obj (AH.lst_eq h)
  rw [ra] at ra'; cases ra'
  exact ⟨a, cs, e, ra, g1, g2⟩
theorem new_lst {ρ : Rho} {M : AH} {H : Hp} {xs : List AV} {cs : List V} {p : Addr} (S : Sm K cl ρ M H) (rs : RVs K ρ H xs cs) (hp : H p = none) :
    ∃ ρ', Sm K cl ρ' (M.new (.lst xs)) (upd H p (.lst cs)) ∧ Mo ρ H ρ' (upd H p (.lst cs)) ∧ RV K ρ' (upd H p (.lst cs)) (.ref M.next) (.ref p) := by
  have mo : Mo ρ H (ext ρ M.next p) (upd H p (.lst cs)) := ⟨fun m b e => by have := S.dom e; unfold ext; rw [if_neg (by omega)]; exact e, keep_new hp⟩
  obtain ⟨S', m, at'⟩ := S.new (o := .lst xs) (ho := .lst cs) hp ⟨cs, upd_same, rs.mo mo⟩
  exact ⟨_, S', m, by rw [RV]; exact ⟨p, rfl, at'⟩⟩
theorem set_lst {ρ : Rho} {M : AH} {H : Hp} {n : Nat} {xs ys : List AV} {cs : List V} {a : Addr} (S : Sm K cl ρ M H) (g : M.lst n = some xs) (r : ρ n = some a) (rs : RVs K ρ H ys cs) :
    Sm K cl ρ (M.set n (.lst ys)) (upd H a (.lst cs)) ∧ Mo ρ H ρ (upd H a (.lst cs)) := by
  have hi : ∀ u, H a = some u → ¬ Imm u := by
    obtain ⟨a', r', x⟩ := S.obj (AH.lst_eq g)
    rw [r] at r'; cases r'
    exact x.notImm
  exact S.upd (AH.lst_eq g) r ⟨cs, upd_same, rs.mo (mo_upd hi)⟩
theorem sim_add : Sim2 K cl (fun x y H Q => (rI0 fun i j => .int (i + j)) x y H Q ∨ rCat x y H Q ∨ rCatA K x y H Q) oAdd := by
  intro ρ M H x y c d v M' S r s h Q k
  unfold oAdd at h
  split at h
  · cases h
    rw [RV] at r s
    exact .inl ⟨_, _, r, s, k _ _ _ S (Mo.refl _ _) (rv_int _)⟩
  · split at h
    · cases h
      rename_i xs ys hl
      rw [RV] at r s
      obtain ⟨a, cs, rfl, e1, rs⟩ := r
      obtain ⟨b, ds, rfl, e2, ss⟩ := s
      refine .inr (.inr ⟨a, b, cs, ds, rfl, rfl, e1.sqt, e2.sqt, by rw [rs.length, ss.length]; exact le_sizeLine hl, fun z => ?_, fun _ z => ?_, fun _ _ p hp => ?_⟩)
      · have : xs = [] := List.length_eq_zero_iff.mp (by rw [← rs.length, z]; rfl)
        subst this
        exact k _ _ _ S (Mo.refl _ _) (by rw [RV]; exact ⟨b, ds, rfl, e2, ss⟩)
      · have : ys = [] := List.length_eq_zero_iff.mp (by rw [← ss.length, z]; rfl)
        subst this
        exact k _ _ _ S (Mo.refl _ _) (by rw [RV, List.append_nil]; exact ⟨a, cs, rfl, e1, rs⟩)
      · exact k _ _ _ (S.side hp) (mo_side hp) (by rw [RV]; exact ⟨p, _, rfl, .inl upd_same, (rs.append ss).mo (mo_side hp)⟩)
    · cases h
  · split at h
    · rename_i n m xs ys e1 e2
      split at h
      · cases h
        obtain ⟨a, cs, rfl, ra, g1, rs⟩ := ref_lst S r e1
        obtain ⟨b, ds, rfl, rb, g2, ss⟩ := ref_lst S s e2
        refine .inr (.inl ⟨a, b, cs, ds, rfl, rfl, g1, g2, by rw [rs.length, ss.length]; exact le_sizeLine (by assumption), fun p hp => ?_⟩)
        obtain ⟨ρ', S', m', r'⟩ := new_lst S (rs.append ss) hp
        exact k _ _ _ S' m' r'
      · cases h
    · cases h
  · cases h
theorem rv_nonI {ρ : Rho} {H : Hp} {x : AV} {c : V} (r : RV K ρ H x c) : decide (c = .non) = decide (x = .non) := by
  cases x with
  | non => rw [RV] at r; subst r; rfl
  | bl b => rw [RV] at r; subst r; rfl
  | int b => rw [RV] at r; subst r; rfl
  | str b => rw [RV] at r; subst r; rfl
  | ref b => rw [RV] at r; obtain ⟨a, rfl, _⟩ := r; rfl
  | tup b => rw [RV] at r; obtain ⟨a, _, rfl, _⟩ := r; rfl
  | ro b => rw [RV] at r; obtain ⟨a, _, rfl, _⟩ := r; rfl
theorem sim_isN : Sim2 K cl (fun x y H Q => y = .non ∧ Q (.bl (decide (x = .non))) H) oIsN := by
  intro ρ M H x y c d v M' S r s h Q k
  unfold oIsN at h
  split at h
  · cases h
    subst y
    rw [RV] at s
    exact ⟨s, k _ _ _ S (Mo.refl _ _) (by rw [rv_nonI r]; exact rv_bl _)⟩
  · cases h
theorem sim_notN : Sim2 K cl (fun x y H Q => y = .non ∧ Q (.bl (!decide (x = .non))) H) oNotN := by
  intro ρ M H x y c d v M' S r s h Q k
  unfold oNotN at h
  split at h
  · cases h
    subst y
    rw [RV] at s
    exact ⟨s, k _ _ _ S (Mo.refl _ _) (by rw [rv_nonI r]; exact rv_bl _)⟩
  · cases h
/-! equality -/
theorem strOk_of (x : String) : PyData.strOk (Str.ofString x) = true := by
  unfold PyData.strOk
  rw [Str.ofString_eq_toList]
  simp only [List.all_toArray, List.all_eq_true, List.mem_map, decide_eq_true_eq]
  rintro _ ⟨c, _, rfl⟩
  have := c.valid
  unfold UInt32.isValidChar Nat.isValidChar at this
  show c.val.toNat < _
  omega
theorem dat_shaped : ∀ (k : Nat) (M : AH) (v : AV) (d : PyData), dat k M v = some d → PyData.canLay0 d = true ∧ PyData.depth d ≤ k
  | 0, _, _, _, h => by unfold dat at h; cases h
  | k + 1, M, v, d, h => by
    have all : ∀ (xs : List AV) (ds : List PyData), datL (dat k M) xs = some ds → PyData.canLayAll0 ds = true ∧ PyData.depthAll ds ≤ k := by
      intro xs
      induction xs with
      | nil => intro ds h; cases h; exact ⟨by rw [PyData.canLayAll0], by rw [PyData.depthAll]; omega⟩
      | cons x xs ih =>
        intro ds h
        unfold datL at h
        obtain ⟨a, e1, h⟩ := Option.bind_eq_some_iff.mp h
        obtain ⟨r, e2, h⟩ := Option.bind_eq_some_iff.mp h
        cases h
        obtain ⟨i1, i2⟩ := ih r e2
        obtain ⟨j1, j2⟩ := dat_shaped k M x a e1
        exact ⟨by rw [PyData.canLayAll0, i1, j1]; rfl, by rw [PyData.depthAll]; omega⟩
    unfold dat at h
    split at h
    · cases h; exact ⟨by rw [PyData.canLay0], by rw [PyData.depth]; omega⟩
    · cases h; exact ⟨by rw [PyData.canLay0], by rw [PyData.depth]; omega⟩
    · cases h; exact ⟨by rw [PyData.canLay0], by rw [PyData.depth]; omega⟩
    · cases h; exact ⟨by rw [PyData.canLay0]; exact strOk_of _, by rw [PyData.depth]; omega⟩
    · obtain ⟨ds, e, e2⟩ := Option.map_eq_some_iff.mp h
      subst e2
      obtain ⟨a1, a2⟩ := all _ _ e
      exact ⟨by rw [PyData.canLay0]; exact a1, by rw [PyData.depth]; omega⟩
    · obtain ⟨ds, e, e2⟩ := Option.map_eq_some_iff.mp h
      subst e2
      obtain ⟨a1, a2⟩ := all _ _ e
      exact ⟨by rw [PyData.canLay0]; exact a1, by rw [PyData.depth]; omega⟩
    · obtain ⟨xs, _, h⟩ := Option.bind_eq_some_iff.mp h
      obtain ⟨ds, e, e2⟩ := Option.map_eq_some_iff.mp h
      subst e2
      obtain ⟨a1, a2⟩ := all _ _ e
      exact ⟨by rw [PyData.canLay0]; exact a1, by rw [PyData.depth]; omega⟩
theorem dat_shp {M : AH} {v : AV} {d : PyData} (h : dat 8 M v = some d) : SeqAt.shaped d = true := by
  obtain ⟨a, b⟩ := dat_shaped _ _ _ _ h
  unfold SeqAt.shaped
  rw [a, decide_eq_true (show PyData.depth d ≤ 64 by omega)]
  rfl
theorem dat_dp {ρ : Rho} {M : AH} {H : Hp} (S : Sm K cl ρ M H) : ∀ (k : Nat) (v : AV) (c : V) (d : PyData), dat k M v = some d → RV K ρ H v c → Dp K H c d
  | 0, _, _, _, h, _ => by unfold dat at h; cases h
  | k + 1, v, c, d, h, r => by
    have all : ∀ (xs : List AV) (cs : List V) (ds : List PyData), datL (dat k M) xs = some ds → RVs K ρ H xs cs → DpAll K H cs ds := by
      intro xs
      induction xs with
      | nil => intro cs ds h r; cases h; rw [RVs] at r; subst r; exact .nil
      | cons x xs ih =>
        intro cs ds h r
        unfold datL at h
        obtain ⟨a, e1, h⟩ := Option.bind_eq_some_iff.mp h
        obtain ⟨q, e2, h⟩ := Option.bind_eq_some_iff.mp h
        cases h
        rw [RVs] at r
        obtain ⟨c1, cr, rfl, r1, r2⟩ := r
        exact .cons (dat_dp S k x c1 a e1 r1) (ih _ _ e2 r2)
    unfold dat at h
    split at h
    · cases h; rw [RV] at r; subst r; exact .non
    · cases h; rw [RV] at r; subst r; exact .bl _
    · cases h; rw [RV] at r; subst r; exact .int _
    · cases h; rw [RV] at r; subst r; exact .str _
    · obtain ⟨ds, e, e2⟩ := Option.map_eq_some_iff.mp h
      subst e2
      rw [RV] at r
      obtain ⟨a, cs, rfl, g, rs⟩ := r
      exact .tup g.sqt (all _ _ _ e rs)
    · obtain ⟨ds, e, e2⟩ := Option.map_eq_some_iff.mp h
      subst e2
      rw [RV] at r
      obtain ⟨a, cs, rfl, g, rs⟩ := r
      exact .lst g.sql (all _ _ _ e rs)
    · obtain ⟨xs, el, h⟩ := Option.bind_eq_some_iff.mp h
      obtain ⟨ds, e, e2⟩ := Option.map_eq_some_iff.mp h
      subst e2
      obtain ⟨a, cs, rfl, ra, g, rs⟩ := ref_lst S r el
      exact .lst (.inl (.inl g)) (all _ _ _ e rs)
theorem sim_eq : Sim2 K cl (rEqD K) oEq := by
  intro ρ M H x y c d v M' S r s h Q k
  obtain ⟨a, e1, h⟩ := Option.bind_eq_some_iff.mp h
  obtain ⟨b, e2, h⟩ := Option.bind_eq_some_iff.mp h
  cases h
  exact ⟨a, b, dat_dp S _ _ _ _ e1 r, dat_dp S _ _ _ _ e2 s, dat_shp e1, dat_shp e2, k _ _ _ S (Mo.refl _ _) (rv_bl _)⟩
theorem sim_ne : Sim2 K cl (rNeD K) oNe := by
  intro ρ M H x y c d v M' S r s h Q k
  obtain ⟨a, e1, h⟩ := Option.bind_eq_some_iff.mp h
  obtain ⟨b, e2, h⟩ := Option.bind_eq_some_iff.mp h
  cases h
  exact ⟨a, b, dat_dp S _ _ _ _ e1 r, dat_dp S _ _ _ _ e2 s, dat_shp e1, dat_shp e2, k _ _ _ S (Mo.refl _ _) (rv_bl _)⟩
/-! dicts -/
theorem key_rv {ρ : Rho} {H : Hp} {x : AV} {c : V} {k : AK} (r : RV K ρ H x c) (h : AV.key x = some k) : c = kV k.k := by
  unfold AV.key at h
  split at h
  · cases h; rw [RV] at r; exact r
  · cases h; rw [RV] at r; exact r
  · cases h
theorem keys_rv {ρ : Rho} {H : Hp} : ∀ {xs : List AV} {cs : List V} {ks : List AK}, RVs K ρ H xs cs → keysOf xs = some ks → cs = (ks.map AK.k).map kV
  | [], _, _, r, h => by cases h; rw [RVs] at r; exact r
  | x :: xs, _, _, r, h => by
    unfold keysOf at h
    obtain ⟨a, e1, h⟩ := Option.bind_eq_some_iff.mp h
    obtain ⟨b, e2, h⟩ := Option.bind_eq_some_iff.mp h
    cases h
    rw [RVs] at r
    obtain ⟨c1, cr, rfl, r1, r2⟩ := r
    rw [key_rv r1 e1, keys_rv r2 e2]
    rfl
/-- what is known of an answer -/
def ORel (K : PySem.W.Frag) (ρ : Rho) (H : Hp) (o : Option AV) (o' : Option V) : Prop := (o = none ∧ o' = none) ∨ ∃ x y, o = some x ∧ o' = some y ∧ RV K ρ H x y
theorem ORel.isSome {ρ : Rho} {H : Hp} {o : Option AV} {o' : Option V} (h : ORel K ρ H o o') : o'.isSome = o.isSome := by
  rcases h with ⟨rfl, rfl⟩ | ⟨x, y, rfl, rfl, _⟩ <;> rfl
theorem dk_sim {ρ : Rho} {M : AH} {H : Hp} {n : Nat} {kvs : List (AK × AV)} {a : Addr} (S : Sm K cl ρ M H) (ra : ρ n = some a) (h : dkO (M.get n) = some kvs) : ∃ cs, Rd H a (.dK cs) ∧ REs AK.k K ρ H kvs cs := by
  unfold dkO at h
  split at h
  · rename_i g
    cases h
    obtain ⟨a', ra', cs, g1, g2⟩ := S.obj g
    rw [ra] at ra'; cases ra'
    exact ⟨cs, .inl g1, g2⟩
  · rename_i g
    cases h
    obtain ⟨a', ra', o, cs, g1, g2⟩ := S.obj g
    rw [ra] at ra'; cases ra'
    exact ⟨cs, .inr ⟨o, g1⟩, g2⟩
  · cases h
theorem dt_sim {ρ : Rho} {M : AH} {H : Hp} {n : Nat} {kvs : List (List AK × AV)} {a : Addr} (S : Sm K cl ρ M H) (ra : ρ n = some a) (h : dtO (M.get n) = some kvs) : ∃ cs, Rd H a (xdO cl.P cl.w a cs) ∧ RX K ρ H kvs cs := by
  unfold dtO at h
  split at h
  · rename_i g
    cases h
    obtain ⟨a', ra', cs, g1, g2⟩ := S.obj g
    rw [ra] at ra'; cases ra'
    exact ⟨cs, .inl g1, g2⟩
  · rename_i g
    cases h
    obtain ⟨a', ra', o, cs, g1, g2⟩ := S.obj g
    rw [ra] at ra'; cases ra'
    exact ⟨cs, .inr ⟨o, g1⟩, g2⟩
  · cases h
theorem keyT_rv {ρ : Rho} {H : Hp} {k : AV} {c : V} {ks : List AK} (r : RV K ρ H k c) (h : keyT k = some ks) : ∃ b, c = .ref b ∧ KeyAt K H (ks.map AK.k) b := by
  unfold keyT at h
  split at h
  · rw [RV] at r
    obtain ⟨b, cs, rfl, g, rs⟩ := r
    rw [keys_rv rs h] at g
    exact ⟨b, rfl, g⟩
  · cases h
theorem dGet_sim {ρ : Rho} {M : AH} {H : Hp} {d k : AV} {c e : V} {o : Option AV} (hP : cl.P = X.prog) (hw : cl.w = X.w) (S : Sm X.K cl ρ M H) (r : RV X.K ρ H d c) (s : RV X.K ρ H k e) (h : dGet M d k = some o) :
    ∃ a, c = .ref a ∧ ((∃ o', DGet H a e o' ∧ ORel X.K ρ H o o') ∨ ∃ o', XGet X H a e o' ∧ ORel X.K ρ H o o') := by
  unfold dGet at h
  split at h
  · rename_i n
    rw [RV] at r
    obtain ⟨a, rfl, ra⟩ := r
    refine ⟨a, rfl, ?_⟩
    unfold dLook at h
    split at h
    · rename_i kvs g
      obtain ⟨ak, e1, e2⟩ := Option.map_eq_some_iff.mp h
      obtain ⟨cs, g1, g2⟩ := dk_sim S ra g
      refine .inl ⟨_, .inl ⟨cs, ak.k, g1, key_rv s e1, rfl⟩, ?_⟩
      rw [← e2]
      exact REs.val (fun _ _ => AK.k_inj) ak g2
    · obtain ⟨kvs, g, h⟩ := Option.bind_eq_some_iff.mp h
      obtain ⟨ks, e1, e2⟩ := Option.map_eq_some_iff.mp h
      obtain ⟨cs, g1, g2⟩ := dt_sim S ra g
      obtain ⟨b, rfl, kb⟩ := keyT_rv s e1
      rw [hP, hw] at g1
      refine .inr ⟨_, ⟨cs, _, b, g1, g2.keys, rfl, kb, rfl⟩, ?_⟩
      rw [← e2]
      exact RX.val ks g2
  · cases h
theorem dPut_sim {ρ : Rho} {M M' : AH} {H : Hp} {d k v : AV} {c e w : V} (hP : cl.P = X.prog) (hw : cl.w = X.w) (S : Sm X.K cl ρ M H) (r : RV X.K ρ H d c) (s : RV X.K ρ H k e) (q : RV X.K ρ H v w) (h : dPut M d k v = some M') :
    ∃ a H', c = .ref a ∧ (DPut H a e w H' ∨ XPut X H a e w H') ∧ Sm X.K cl ρ M' H' ∧ Mo ρ H ρ H' := by
  unfold dPut at h
  split at h
  · rename_i n
    rw [RV] at r
    obtain ⟨a, rfl, ra⟩ := r
    split at h
    · rename_i kvs g
      obtain ⟨ak, e1, h⟩ := Option.bind_eq_some_iff.mp h
      split at h
      case isFalse => cases h
      rename_i hl
      cases h
      obtain ⟨a', ra', cs, g1, g2⟩ := S.obj g
      rw [ra] at ra'; cases ra'
      have hi : ∀ u, H a = some u → ¬ Imm u := fun u z => by rw [g1] at z; cases z; exact fun z => z
      have mo : Mo ρ H ρ (upd H a (.dK (putK cs ak.k w))) := mo_upd hi
      obtain ⟨S', m⟩ := S.upd (o' := .dK (putM kvs ak v)) (ho := .dK (putK cs ak.k w)) g ra ⟨_, upd_same, REs.mo mo (REs.putM (fun _ _ => AK.k_inj) q g2)⟩
      exact ⟨a, _, rfl, .inl (.inl ⟨cs, ak.k, g1, key_rv s e1, by rw [← Paired.length g2]; exact lt_sizeLine hl, rfl⟩), S', m⟩
    · rename_i kvs g
      obtain ⟨ks, e1, h⟩ := Option.bind_eq_some_iff.mp h
      split at h
      case isFalse => cases h
      rename_i hl
      cases h
      obtain ⟨a', ra', cs, g1, g2⟩ := S.obj g
      rw [ra] at ra'; cases ra'
      obtain ⟨b, rfl, kb⟩ := keyT_rv s e1
      have hi : ∀ u, H a = some u → ¬ Imm u := fun u z => by rw [g1] at z; cases z; exact fun z => z
      have mo : Mo ρ H ρ (upd H a (xdO cl.P cl.w a (putX cs (ks.map AK.k) b w))) := mo_upd hi
      obtain ⟨S', m⟩ := S.upd (o' := .dT (putM kvs ks v)) (ho := xdO cl.P cl.w a (putX cs (ks.map AK.k) b w)) g ra ⟨_, upd_same, RX.mo mo (RX.put q kb g2)⟩
      rw [hP, hw] at S' m g1
      exact ⟨a, _, rfl, .inr ⟨cs, _, b, g1, g2.keys, rfl, kb, by rw [← Paired.length g2]; exact lt_sizeLine hl, rfl⟩, S', m⟩
    · cases h
  · cases h
def dGetK (M : AH) (d k : AV) : Option (Option AV) := match d with
  | .ref n => (dkO (M.get n)).bind fun kvs => (AV.key k).map fun k => look kvs k
  | _ => none
def dGetT (M : AH) (d k : AV) : Option (Option AV) := match d with
  | .ref n => (dtO (M.get n)).bind fun kvs => (keyT k).map fun ks => look kvs ks
  | _ => none
/-- true: keys are numbers and texts; false: tuples -/
def kindD (v : AV) (M : AH) : Option Bool := match v with
  | .ref n => match dkO (M.get n) with
    | some _ => some true
    | none => (dtO (M.get n)).map fun _ => false
  | _ => none
def dGetB (b : Bool) (M : AH) (d k : AV) : Option (Option AV) := if b = true then dGetK M d k else dGetT M d k
/-- d.get(k, x) -/
def eGet2 (d k x : AE) : AE := fun σ M => (d σ M).bind fun p => (kindD p.1 p.2).bind fun b => (k σ p.2).bind fun q => (x σ q.2).bind fun r => (dGetB b r.2 p.1 q.1).bind fun o => some (o.getD r.1, r.2)
/-- d.get(k) -/
def eGet1 (d k : AE) : AE := fun σ M => (d σ M).bind fun p => (kindD p.1 p.2).bind fun b => (k σ p.2).bind fun q => (dGetB b q.2 p.1 q.1).bind fun o => some (o.getD .non, q.2)
theorem dGetK_sim {ρ : Rho} {M : AH} {H : Hp} {d k : AV} {a : Addr} {e : V} {o : Option AV} (S : Sm K cl ρ M H) (r : RV K ρ H d (.ref a)) (s : RV K ρ H k e) (h : dGetK M d k = some o) : ∃ o', DGet H a e o' ∧ ORel K ρ H o o' := by
  unfold dGetK at h
  split at h
  · rw [RV] at r
    obtain ⟨a', e', ra⟩ := r
    cases e'
    obtain ⟨kvs, g, h⟩ := Option.bind_eq_some_iff.mp h
    obtain ⟨ak, e1, e2⟩ := Option.map_eq_some_iff.mp h
    obtain ⟨cs, g1, g2⟩ := dk_sim S ra g
    refine ⟨_, .inl ⟨cs, ak.k, g1, key_rv s e1, rfl⟩, ?_⟩
    rw [← e2]
    exact REs.val (fun _ _ => AK.k_inj) ak g2
  · cases h
theorem dGetT_sim {ρ : Rho} {M : AH} {H : Hp} {d k : AV} {a : Addr} {e : V} {o : Option AV} (hP : cl.P = X.prog) (hw : cl.w = X.w) (S : Sm X.K cl ρ M H) (r : RV X.K ρ H d (.ref a)) (s : RV X.K ρ H k e) (h : dGetT M d k = some o) : ∃ o', XGet X H a e o' ∧ ORel X.K ρ H o o' := by
  unfold dGetT at h
  split at h
  · rw [RV] at r
    obtain ⟨a', e', ra⟩ := r
    cases e'
    obtain ⟨kvs, g, h⟩ := Option.bind_eq_some_iff.mp h
    obtain ⟨ks, e1, e2⟩ := Option.map_eq_some_iff.mp h
    obtain ⟨cs, g1, g2⟩ := dt_sim S ra g
    obtain ⟨b, rfl, kb⟩ := keyT_rv s e1
    rw [hP, hw] at g1
    refine ⟨_, ⟨cs, _, b, g1, g2.keys, rfl, kb, rfl⟩, ?_⟩
    rw [← e2]
    exact RX.val ks g2
  · cases h
theorem kindD_sim {ρ : Rho} {M : AH} {H : Hp} {d : AV} {c : V} {b : Bool} (hP : cl.P = X.prog) (hw : cl.w = X.w) (S : Sm X.K cl ρ M H) (r : RV X.K ρ H d c) (h : kindD d M = some b) : ∃ a, c = .ref a ∧ if b = true then IsD H a else IsX X H a := by
  unfold kindD at h
  split at h
  · rw [RV] at r
    obtain ⟨a, rfl, ra⟩ := r
    refine ⟨a, rfl, ?_⟩
    split at h
    · rename_i kvs e
      cases h
      obtain ⟨cs, g1, _⟩ := dk_sim S ra e
      exact .inl ⟨cs, g1⟩
    · obtain ⟨kvs, e, e2⟩ := Option.map_eq_some_iff.mp h
      subst e2
      obtain ⟨cs, g1, g2⟩ := dt_sim S ra e
      rw [hP, hw] at g1
      exact ⟨cs, g1, g2.keys⟩
  · cases h
theorem ORel.getD {ρ : Rho} {H : Hp} {o : Option AV} {o' : Option V} {x : AV} {y : V} (h : ORel K ρ H o o') (r : RV K ρ H x y) : RV K ρ H (o.getD x) (o'.getD y) := by
  rcases h with ⟨rfl, rfl⟩ | ⟨_, _, rfl, rfl, h⟩
  · exact r
  · exact h
theorem sim_get2 {td ty tx : TE} {d k x : AE} (hP : cl.P = X.prog) (hw : cl.w = X.w) (hd : SimE X.K cl td d) (hk : SimE X.K cl ty k) (hx : SimE X.K cl tx x) : SimE X.K cl (fun σ H Q => tDGet2 td ty tx σ H Q ∨ tXGet2 X td ty tx σ H Q) (eGet2 d k x) := by
  intro ρ M H σ c v M' S R h Q kk
  obtain ⟨⟨y, M1⟩, e1, h⟩ := Option.bind_eq_some_iff.mp h
  obtain ⟨b, e0, h⟩ := Option.bind_eq_some_iff.mp h
  obtain ⟨⟨z, N2⟩, e2, h⟩ := Option.bind_eq_some_iff.mp h
  obtain ⟨⟨u, M3⟩, e3, h⟩ := Option.bind_eq_some_iff.mp h
  obtain ⟨o, e4, h⟩ := Option.bind_eq_some_iff.mp h
  cases h
  unfold dGetB at e4
  cases b with
  | true =>
    refine .inl (hd S R e1 _ fun ρ1 H1 w1 S1 m1 r1 => ?_)
    obtain ⟨a, rfl, iD⟩ := kindD_sim hP hw S1 r1 e0
    refine ⟨a, rfl, iD, ?_⟩
    refine hk S1 (R.mo m1) e2 _ fun ρ2 H2 w2 S2 m2 r2 => ?_
    refine hx S2 (R.mo (m1.trans m2)) e3 _ fun ρ3 H3 w3 S3 m3 r3 => ?_
    obtain ⟨o', q2, q3⟩ := dGetK_sim S3 (r1.mo (m2.trans m3)) (r2.mo m3) e4
    exact ⟨o', q2, kk _ _ _ S3 ((m1.trans m2).trans m3) (q3.getD r3)⟩
  | false =>
    refine .inr (hd S R e1 _ fun ρ1 H1 w1 S1 m1 r1 => ?_)
    obtain ⟨a, rfl, iD⟩ := kindD_sim hP hw S1 r1 e0
    refine ⟨a, rfl, iD, ?_⟩
    refine hk S1 (R.mo m1) e2 _ fun ρ2 H2 w2 S2 m2 r2 => ?_
    refine hx S2 (R.mo (m1.trans m2)) e3 _ fun ρ3 H3 w3 S3 m3 r3 => ?_
    obtain ⟨o', q2, q3⟩ := dGetT_sim hP hw S3 (r1.mo (m2.trans m3)) (r2.mo m3) e4
    exact ⟨o', q2, kk _ _ _ S3 ((m1.trans m2).trans m3) (q3.getD r3)⟩
theorem sim_get1 {td ty : TE} {d k : AE} (hP : cl.P = X.prog) (hw : cl.w = X.w) (hd : SimE X.K cl td d) (hk : SimE X.K cl ty k) : SimE X.K cl (fun σ H Q => tDGet1 td ty σ H Q ∨ tXGet1 X td ty σ H Q) (eGet1 d k) := by
  intro ρ M H σ c v M' S R h Q kk
  obtain ⟨⟨y, M1⟩, e1, h⟩ := Option.bind_eq_some_iff.mp h
  obtain ⟨b, e0, h⟩ := Option.bind_eq_some_iff.mp h
  obtain ⟨⟨z, N2⟩, e2, h⟩ := Option.bind_eq_some_iff.mp h
  obtain ⟨o, e4, h⟩ := Option.bind_eq_some_iff.mp h
  cases h
  have nn : ∀ {ρ H}, RV X.K ρ H .non .non := by intro ρ H; rw [RV]
  unfold dGetB at e4
  cases b with
  | true =>
    refine .inl (hd S R e1 _ fun ρ1 H1 w1 S1 m1 r1 => ?_)
    obtain ⟨a, rfl, iD⟩ := kindD_sim hP hw S1 r1 e0
    refine ⟨a, rfl, iD, ?_⟩
    refine hk S1 (R.mo m1) e2 _ fun ρ2 H2 w2 S2 m2 r2 => ?_
    obtain ⟨o', q2, q3⟩ := dGetK_sim S2 (r1.mo m2) r2 e4
    exact ⟨o', q2, kk _ _ _ S2 (m1.trans m2) (q3.getD nn)⟩
  | false =>
    refine .inr (hd S R e1 _ fun ρ1 H1 w1 S1 m1 r1 => ?_)
    obtain ⟨a, rfl, iD⟩ := kindD_sim hP hw S1 r1 e0
    refine ⟨a, rfl, iD, ?_⟩
    refine hk S1 (R.mo m1) e2 _ fun ρ2 H2 w2 S2 m2 r2 => ?_
    obtain ⟨o', q2, q3⟩ := dGetT_sim hP hw S2 (r1.mo m2) r2 e4
    exact ⟨o', q2, kk _ _ _ S2 (m1.trans m2) (q3.getD nn)⟩
theorem sim_dget {td ty : TE} {d k : AE} (hP : cl.P = X.prog) (hw : cl.w = X.w) (hd : SimE X.K cl td d) (hk : SimE X.K cl ty k) : SimE X.K cl (fun σ H Q => tDGet td ty σ H Q ∨ tXGet X td ty σ H Q) (eBin oDget d k) := by
  intro ρ M H σ c v M' S R h Q kk
  obtain ⟨⟨y, M1⟩, e1, h⟩ := Option.bind_eq_some_iff.mp h
  obtain ⟨⟨z, N2⟩, e2, h⟩ := Option.bind_eq_some_iff.mp h
  obtain ⟨o, e3, h⟩ := Option.bind_eq_some_iff.mp h
  obtain ⟨w, e4, h⟩ := Option.map_eq_some_iff.mp h
  cases h
  subst e4
  -- which of the two is read off the abstract dict
  have two : dGetK N2 y z = some (some v) ∨ dGetT N2 y z = some (some v) := by
    dsimp only at e3
    unfold dGet at e3
    split at e3
    · rename_i n
      unfold dLook at e3
      unfold dGetK dGetT
      dsimp only
      split at e3
      · rename_i kvs g
        left
        rw [g]
        exact e3
      · exact .inr e3
    · cases e3
  rcases two with two | two
  · refine .inl (hd S R e1 _ fun ρ1 H1 w1 S1 m1 r1 => ?_)
    refine hk S1 (R.mo m1) e2 _ fun ρ2 H2 w2 S2 m2 r2 => ?_
    have r1 := r1.mo m2
    cases y with
    | ref n =>
      obtain ⟨a, rfl, ra⟩ := (by rw [RV] at r1; exact r1 : ∃ a, w1 = .ref a ∧ ρ2 n = some a)
      obtain ⟨o', q2, q3⟩ := dGetK_sim S2 r1 r2 two
      rcases q3 with ⟨q, _⟩ | ⟨x1, y1, q, rfl, q4⟩
      · cases q
      · cases q
        exact ⟨a, _, rfl, q2, kk _ _ _ S2 (m1.trans m2) q4⟩
    | _ => cases two
  · refine .inr (hd S R e1 _ fun ρ1 H1 w1 S1 m1 r1 => ?_)
    refine hk S1 (R.mo m1) e2 _ fun ρ2 H2 w2 S2 m2 r2 => ?_
    have r1 := r1.mo m2
    cases y with
    | ref n =>
      obtain ⟨a, rfl, ra⟩ := (by rw [RV] at r1; exact r1 : ∃ a, w1 = .ref a ∧ ρ2 n = some a)
      obtain ⟨o', q2, q3⟩ := dGetT_sim hP hw S2 r1 r2 two
      rcases q3 with ⟨q, _⟩ | ⟨x1, y1, q, rfl, q4⟩
      · cases q
      · cases q
        exact ⟨a, _, rfl, q2, kk _ _ _ S2 (m1.trans m2) q4⟩
    | _ => cases two
/-! places of lists and tuples -/
theorem ixN_lt {n : Nat} {i : Int} {j : Nat} (h : ixN n i = some j) : j < n := by
  unfold ixN at h
  split at h
  · split at h
    · cases h; omega
    · cases h
  · split at h
    · cases h; omega
    · cases h
theorem atI_rv {ρ : Rho} {H : Hp} {xs : List AV} {cs : List V} {i : Int} {v : AV} (rs : RVs K ρ H xs cs) (h : atI xs i = some v) : ∃ c, atI cs i = some c ∧ RV K ρ H v c := by
  unfold atI at h ⊢
  rw [rs.length]
  obtain ⟨j, e1, e2⟩ := Option.bind_eq_some_iff.mp h
  obtain ⟨c, e3, r⟩ := rs.get e2
  exact ⟨c, by rw [e1]; exact e3, r⟩
theorem sim_ix : Sim2 K cl (rIx K) oIx := by
  intro ρ M H x y c d v M' S r s h Q k
  unfold oIx at h
  split at h
  · rename_i i
    rw [RV] at s
    subst s
    split at h
    · obtain ⟨w, e, h⟩ := Option.map_eq_some_iff.mp h
      cases h
      rw [RV] at r
      obtain ⟨a, cs, rfl, g, rs⟩ := r
      obtain ⟨z, e2, r2⟩ := atI_rv rs e
      exact .inr (.inl ⟨a, cs, i, z, rfl, rfl, g.sqt, e2, k _ _ _ S (Mo.refl _ _) r2⟩)
    · obtain ⟨xs, el, h⟩ := Option.bind_eq_some_iff.mp h
      obtain ⟨w, e, h⟩ := Option.map_eq_some_iff.mp h
      cases h
      obtain ⟨a, cs, rfl, ra, g, rs⟩ := ref_lst S r el
      obtain ⟨z, e2, r2⟩ := atI_rv rs e
      exact .inl ⟨a, cs, i, z, rfl, rfl, .inl (.inl g), e2, k _ _ _ S (Mo.refl _ _) r2⟩
    · cases h
  · cases h
/-- a place of a list or a dict, by what it is -/
def eSub (a b : AE) : AE := eBin (fun x y M => match x with
  | .ref n => match M.lst n with
    | some _ => oIx x y M
    | none => oDget x y M
  | _ => oIx x y M) a b
theorem sim_sub2 {ta tb : TE} {a b : AE} (hP : cl.P = X.prog) (hw : cl.w = X.w) (ha : SimE X.K cl ta a) (hb : SimE X.K cl tb b) : SimE X.K cl (fun σ H Q => tOp (rIx X.K) ta tb σ H Q ∨ (tDGet ta tb σ H Q ∨ tXGet X ta tb σ H Q)) (eSub a b) := by
  intro ρ M H σ c v M' S R h Q k
  obtain ⟨⟨x, M1⟩, e1, h⟩ := Option.bind_eq_some_iff.mp h
  obtain ⟨⟨y, N2⟩, e2, h⟩ := Option.bind_eq_some_iff.mp h
  have one : oIx x y N2 = some (v, M') ∨ oDget x y N2 = some (v, M') := by
    dsimp only at h
    split at h
    · split at h
      · exact .inl h
      · exact .inr h
    · exact .inl h
  rcases one with h' | h'
  · refine .inl (sim_bin (f := oIx) sim_ix ha hb S R ?_ Q k)
    unfold eBin
    rw [e1, Option.bind_some, e2, Option.bind_some]
    exact h'
  · refine .inr (sim_dget hP hw ha hb S R ?_ Q k)
    unfold eBin
    rw [e1, Option.bind_some, e2, Option.bind_some]
    exact h'
/-- a[i] = v -/
def sSub (o i y : AE) : AS := fun σ M => (y σ M).bind fun p => (o σ p.2).bind fun q => (i σ q.2).bind fun r => (subPut r.2 q.1 r.1 p.1).bind fun M' => some (.nx, σ, M')
where subPut (M : AH) (x i v : AV) : Option AH := match x with
  | .ref n => match M.lst n with
    | some xs => match i with
      | .int j => (ixN xs.length j).map fun j => M.set n (.lst (xs.set j v))
      | _ => none
    | none => dPut M x i v
  | _ => none
theorem sim_subset {to ti tv : TE} {o i y : AE} (hP : cl.P = X.prog) (hw : cl.w = X.w) (ho : SimE X.K cl to o) (hi : SimE X.K cl ti i) (hy : SimE X.K cl tv y) : SimS X.K cl (fun D σ H => tAsg tv (gSub to ti rSetL) D σ H ∨ (sDPut to ti tv D σ H ∨ sXPut X to ti tv D σ H)) (sSub o i y) := by
  intro ρ M H σ c f σ' M' S R h D k
  obtain ⟨⟨x1, M1⟩, e1, h⟩ := Option.bind_eq_some_iff.mp h
  obtain ⟨⟨x2, N2⟩, e2, h⟩ := Option.bind_eq_some_iff.mp h
  obtain ⟨⟨x3, M3⟩, e3, h⟩ := Option.bind_eq_some_iff.mp h
  obtain ⟨M4, e4, h⟩ := Option.bind_eq_some_iff.mp h
  cases h
  unfold sSub.subPut at e4
  dsimp only at e4
  cases x2 with
  | ref n =>
    dsimp only at e4
    cases en : M3.lst n with
    | some xs =>
      rw [en] at e4
      dsimp only at e4
      cases x3 with
      | int j =>
        obtain ⟨j', ej, e4⟩ := Option.map_eq_some_iff.mp e4
        cases e4
        refine .inl ?_
        refine hy S R e1 _ fun ρ1 H1 w1 S1 m1 r1 => ?_
        refine ho S1 (R.mo m1) e2 _ fun ρ2 H2 w2 S2 m2 r2 => ?_
        refine hi S2 (R.mo (m1.trans m2)) e3 _ fun ρ3 H3 w3 S3 m3 r3 => ?_
        obtain ⟨a, cs, rfl, ra, g, rs⟩ := ref_lst S3 (r2.mo m3) en
        rw [RV] at r3
        subst r3
        obtain ⟨S4, m4⟩ := set_lst S3 en ra (RVs.set (i := j') (r1.mo (m2.trans m3)) rs)
        exact ⟨a, cs, j, j', rfl, rfl, g, by rw [rs.length]; exact ej, k _ _ _ S4 (((m1.trans m2).trans m3).trans m4) (R.mo (((m1.trans m2).trans m3).trans m4))⟩
      | _ => cases e4
    | none =>
      rw [en] at e4
      dsimp only at e4
      cases hk : M3.get n with
      | none =>
        unfold dPut at e4
        dsimp only at e4
        rw [hk] at e4
        cases e4
      | some ob =>
        -- the two readings, side by side: the object's kind tells which
        cases ob with
        | dK kvs =>
          refine .inr (.inl (hy S R e1 _ fun ρ1 H1 w1 S1 m1 r1 => ?_))
          refine ho S1 (R.mo m1) e2 _ fun ρ2 H2 w2 S2 m2 r2 => ?_
          refine hi S2 (R.mo (m1.trans m2)) e3 _ fun ρ3 H3 w3 S3 m3 r3 => ?_
          obtain ⟨a, H4, rfl, q, S4, m4⟩ := dPut_sim hP hw S3 (r2.mo m3) r3 (r1.mo (m2.trans m3)) e4
          refine ⟨a, H4, rfl, ?_, k _ _ _ S4 (((m1.trans m2).trans m3).trans m4) (R.mo (((m1.trans m2).trans m3).trans m4))⟩
          rcases q with q | ⟨xs, _, _, e, _⟩
          · exact q
          · obtain ⟨a', ra', cs, g1, _⟩ := S3.obj hk
            have r2' := r2.mo m3
            rw [RV] at r2'
            obtain ⟨a2, e2', ra2⟩ := r2'
            cases e2'
            rw [ra2] at ra'; cases ra'
            rw [g1] at e
            cases e
        | dT kvs =>
          refine .inr (.inr (hy S R e1 _ fun ρ1 H1 w1 S1 m1 r1 => ?_))
          refine ho S1 (R.mo m1) e2 _ fun ρ2 H2 w2 S2 m2 r2 => ?_
          refine hi S2 (R.mo (m1.trans m2)) e3 _ fun ρ3 H3 w3 S3 m3 r3 => ?_
          obtain ⟨a, H4, rfl, q, S4, m4⟩ := dPut_sim hP hw S3 (r2.mo m3) r3 (r1.mo (m2.trans m3)) e4
          refine ⟨a, H4, rfl, ?_, k _ _ _ S4 (((m1.trans m2).trans m3).trans m4) (R.mo (((m1.trans m2).trans m3).trans m4))⟩
          rcases q with q | q
          · obtain ⟨a', ra', cs, g1, _⟩ := S3.obj hk
            have r2' := r2.mo m3
            rw [RV] at r2'
            obtain ⟨a2, e2', ra2⟩ := r2'
            cases e2'
            rw [ra2] at ra'; cases ra'
            rcases q with ⟨xs, _, e, _⟩ | ⟨xs, _, _, e, _⟩ <;> (rw [g1] at e; cases e)
          · exact q
        | _ =>
          unfold dPut at e4
          dsimp only at e4
          rw [hk] at e4
          cases e4
  | _ => cases e4
end
end Sy
namespace Sy
open PySem L2
/-! ### built-in functions -/
def seqOf (M : AH) : AV → Option (List AV)
  | .tup xs => some xs
  | .ro xs => some xs
  | .ref n => M.lst n
  | _ => none
def intsOf : List AV → Option (List Int)
  | [] => some []
  | .int i :: r => (intsOf r).map fun is => i :: is
  | _ :: _ => none
def mx : List Int → Int
  | [] => 0
  | x :: xs => xs.foldl max x
def fAbs : AF := fun vs M => match vs with | [.int i] => some (.int (if i < 0 then -i else i), M) | _ => none
def fInt : AF := fun vs M => match vs with | [.int i] => some (.int i, M) | [.bl k] => some (.int (if k then 1 else 0), M) | _ => none
def fLen : AF := fun vs M => match vs with
  | [x] => match seqOf M x with
    | some xs => some (.int xs.length, M)
    | none => match x with
      | .ref n => match M.get n with
        | some (.dK kvs) => some (.int kvs.length, M)
        | _ => none
      | _ => none
  | _ => none
def fMax : AF := fun vs M => match vs with
  | [.int i, .int j] => some (.int (if j > i then j else i), M)
  | [.ref n] => (M.lst n).bind fun xs => (intsOf xs).bind fun is => if is = [] then none else some (.int (mx is), M)
  | _ => none
/-- max(xs, default=d) -/
def fMaxD : List AV → AF := fun vs zs M => match vs, zs with
  | [.ref n], [.int d] => (M.lst n).bind fun xs => (intsOf xs).bind fun is => if is = [] then some (.int d, M) else some (.int (mx is), M)
  | _, _ => none
def fList : AF := fun vs M => match vs with | [x] => (seqOf M x).map fun xs => (.ref M.next, M.new (.lst xs)) | _ => none
def fReprB : AF := fun vs M => match vs with | [.bl b] => some (.str (if b then "True" else "False"), M) | _ => none
/-! methods of lists -/
abbrev AM := AV → AF
def eLM (f : AM) (a : AE) (r : AA) : AE := fun σ M => (a σ M).bind fun p => match p.1 with
  | .ref n => if (p.2.lst n).isSome = true then (r σ p.2).bind fun q => f p.1 q.1 q.2 else none
  | _ => none
def mAppend : AM := fun x vs M => match x, vs with
  | .ref n, [y] => (M.lst n).bind fun xs => if xs.length < 100000 then some (.non, M.set n (.lst (xs ++ [y]))) else none
  | _, _ => none
def mPop : AM := fun x vs M => match x, vs with
  | .ref n, [] => (M.lst n).bind fun xs => (xs[xs.length - 1]?).map fun y => (y, M.set n (.lst xs.dropLast))
  | .ref n, [.int i] => (M.lst n).bind fun xs => if -(2 ^ 63) ≤ i ∧ i < 2 ^ 63 then (seqIndex? i xs.length).bind fun k => (xs[k]?).map fun y => (y, M.set n (.lst (xs.eraseIdx k))) else none
  | _, _ => none
/-! slices -/
def cutA (xs : List AV) (lo hi : Option Int) : List AV := (xs.drop (HT.sIx xs.length 0 lo)).take (HT.sIx xs.length xs.length hi - HT.sIx xs.length 0 lo)
abbrev AO' := ASt → AH → Option (Option Int × AH)
def pNone : AO' := fun _ M => some (none, M)
def pPart (a : AE) : AO' := fun σ M => (a σ M).bind fun p => match p.1 with | .int i => some (some i, p.2) | _ => none
/-- xs[a:b], a new list -/
def eSl (a : AE) (l u : AO') : AE := fun σ M => (a σ M).bind fun p => (l σ p.2).bind fun q => (u σ q.2).bind fun r => match p.1 with
  | .ref n => (r.2.lst n).map fun xs => (.ref r.2.next, r.2.new (.lst (cutA xs q.1 r.1)))
  | .ro xs => some (.ref r.2.next, r.2.new (.lst (cutA xs q.1 r.1)))
  | _ => none
/-! what is walked -/
def itR1 (a : AA) : AI := fun σ M => (a σ M).bind fun p => match p.1 with
  | [.int j] => if -(2 ^ 62) ≤ j ∧ j < 2 ^ 62 then some (⟨(List.range j.toNat).map fun k => .int (k : Nat), fun _ => true⟩, p.2) else none
  | _ => none
def itR2 (a : AA) : AI := fun σ M => (a σ M).bind fun p => match p.1 with
  | [.int i, .int j] => if -(2 ^ 62) ≤ i ∧ i < 2 ^ 62 ∧ -(2 ^ 62) ≤ j ∧ j < 2 ^ 62 then some (⟨(List.range (j - i).toNat).map fun k => .int (i + (k : Nat)), fun _ => true⟩, p.2) else none
  | _ => none
def itTup (a : AE) : AI := fun σ M => (a σ M).bind fun p => match p.1 with
  | .tup xs => some (⟨xs, fun _ => true⟩, p.2)
  | _ => none
/-! comprehensions -/
def qYes : AT := fun _ M => some (true, M)
def lcGo (D : Nat) (ok : AH → Bool) (tt : AT) (te : AE) (i : Nat) (σ : ASt) : List AV → AH → Option AH
  | [], M => if ok M = true then some M else none
  | x :: r, M => if ok M = true then (tt (σ.set i (some x)) M).bind fun p => if p.1 = true then (te (σ.set i (some x)) p.2).bind fun q => (q.2.lst D).bind fun acc => if acc.length < 100000 then lcGo D ok tt te i σ r (q.2.set D (.lst (acc ++ [q.1]))) else none
      else lcGo D ok tt te i σ r p.2
    else none
def eLc (it : AI) (i : Nat) (tt : AT) (te : AE) : AE := fun σ M => (it σ M).bind fun p => (lcGo p.2.next p.1.ok tt te i σ p.1.all (p.2.new (.lst []))).map fun M' => (.ref p.2.next, M')

section
variable {K : PySem.W.Frag} {cl : Cle} {X : Cx}
theorem rvs1 {ρ : Rho} {H : Hp} {x : AV} {cs : List V} (h : RVs K ρ H [x] cs) : ∃ c, cs = [c] ∧ RV K ρ H x c := by
  rw [RVs] at h
  obtain ⟨c, r, rfl, h1, h2⟩ := h
  rw [RVs] at h2
  subst h2
  exact ⟨c, rfl, h1⟩
theorem rvs2 {ρ : Rho} {H : Hp} {x y : AV} {cs : List V} (h : RVs K ρ H [x, y] cs) : ∃ c d, cs = [c, d] ∧ RV K ρ H x c ∧ RV K ρ H y d := by
  rw [RVs] at h
  obtain ⟨c, r, rfl, h1, h2⟩ := h
  obtain ⟨d, rfl, h3⟩ := rvs1 h2
  exact ⟨c, d, rfl, h1, h3⟩
theorem simc_abs : SimC K cl (fun xs H Q => ∃ i, xs = [.int i] ∧ Q (.int (if i < 0 then -i else i)) H) fAbs := by
  intro ρ M H x c v M' S r h Q k
  unfold fAbs at h
  split at h
  · cases h
    obtain ⟨c, rfl, r1⟩ := rvs1 r
    rw [RV] at r1
    exact ⟨_, by rw [r1], k _ _ _ S (Mo.refl _ _) (rv_int _)⟩
  · cases h
theorem simc_int : SimC K cl (fun xs H Q => (∃ i, xs = [.int i] ∧ Q (.int i) H) ∨ ∃ k, xs = [.bl k] ∧ Q (.int (if k then 1 else 0)) H) fInt := by
  intro ρ M H x c v M' S r h Q k
  unfold fInt at h
  split at h
  · cases h
    obtain ⟨c, rfl, r1⟩ := rvs1 r
    rw [RV] at r1
    exact .inl ⟨_, by rw [r1], k _ _ _ S (Mo.refl _ _) (rv_int _)⟩
  · cases h
    obtain ⟨c, rfl, r1⟩ := rvs1 r
    rw [RV] at r1
    exact .inr ⟨_, by rw [r1], k _ _ _ S (Mo.refl _ _) (rv_int _)⟩
  · cases h
theorem seqOf_sim {ρ : Rho} {M : AH} {H : Hp} {x : AV} {c : V} {xs : List AV} (S : Sm K cl ρ M H) (r : RV K ρ H x c) (h : seqOf M x = some xs) : ∃ p ys, c = .ref p ∧ (SqL K H p ys ∨ SqT K H p ys) ∧ RVs K ρ H xs ys := by
  unfold seqOf at h
  split at h
  · cases h
    rw [RV] at r
    obtain ⟨a, cs, rfl, g, rs⟩ := r
    exact ⟨a, cs, rfl, .inr g.sqt, rs⟩
  · cases h
    rw [RV] at r
    obtain ⟨a, cs, rfl, g, rs⟩ := r
    exact ⟨a, cs, rfl, .inl g.sql, rs⟩
  · obtain ⟨a, cs, rfl, ra, g, rs⟩ := ref_lst S r h
    exact ⟨a, cs, rfl, .inl (.inl (.inl g)), rs⟩
  · cases h
theorem simc_len : SimC K cl (fun xs H Q => (∃ p ys, xs = [.ref p] ∧ (SqL K H p ys ∨ SqT K H p ys) ∧ Q (.int ys.length) H) ∨ (∃ a kvs, xs = [V.ref a] ∧ H a = some (.dK kvs) ∧ Q (.int kvs.length) H)) fLen := by
  intro ρ M H x c v M' S r h Q k
  unfold fLen at h
  split at h
  · obtain ⟨c, rfl, r1⟩ := rvs1 r
    split at h
    · rename_i xs e
      cases h
      obtain ⟨p, ys, rfl, q, rs⟩ := seqOf_sim S r1 e
      exact .inl ⟨p, ys, rfl, q, by rw [rs.length]; exact k _ _ _ S (Mo.refl _ _) (rv_int _)⟩
    · split at h
      · rename_i n e
        split at h
        · rename_i kvs g
          cases h
          rw [RV] at r1
          obtain ⟨a, rfl, ra⟩ := r1
          obtain ⟨a', ra', cs, g1, g2⟩ := S.obj g
          rw [ra] at ra'; cases ra'
          exact .inr ⟨a, cs, rfl, g1, by rw [← Paired.length g2]; exact k _ _ _ S (Mo.refl _ _) (rv_int _)⟩
        · cases h
      · cases h
  · cases h
theorem intsOf_eq : ∀ {xs : List AV} {is : List Int}, intsOf xs = some is → xs = is.map .int
  | [], _, h => by cases h; rfl
  | x :: xs, is, h => by
    cases x with
    | int i =>
      unfold intsOf at h
      obtain ⟨r, e, rfl⟩ := Option.map_eq_some_iff.mp h
      rw [intsOf_eq e]
      rfl
    | _ => unfold intsOf at h; cases h
theorem foldl_max_le : ∀ (xs : List Int) (x : Int), x ≤ xs.foldl max x ∧ ∀ y ∈ xs, y ≤ xs.foldl max x
  | [], x => ⟨Int.le_refl _, fun y h => by cases h⟩
  | z :: xs, x => by
    obtain ⟨a, b⟩ := foldl_max_le xs (max x z)
    rw [List.foldl_cons]
    refine ⟨by omega, fun y h => ?_⟩
    rcases List.mem_cons.mp h with rfl | h
    · omega
    · exact b y h
theorem foldl_max_mem : ∀ (xs : List Int) (x : Int), xs.foldl max x = x ∨ xs.foldl max x ∈ xs
  | [], x => .inl rfl
  | z :: xs, x => by
    rw [List.foldl_cons]
    rcases foldl_max_mem xs (max x z) with h | h
    · rw [h]
      by_cases q : x ≤ z
      · right; rw [Int.max_eq_right q]; exact List.mem_cons_self
      · left; omega
    · right; exact List.mem_cons_of_mem _ h
theorem mx_is {is : List Int} {m : Int} (h1 : m ∈ is) (h2 : ∀ y, y ∈ is → y ≤ m) : m = mx is := by
  cases is with
  | nil => cases h1
  | cons x xs =>
    obtain ⟨a, b⟩ := foldl_max_le xs x
    have hm : m ≤ xs.foldl max x := by
      rcases List.mem_cons.mp h1 with rfl | h
      · exact a
      · exact b m h
    have hM : xs.foldl max x ≤ m := by
      rcases foldl_max_mem xs x with h | h
      · rw [h]; exact h2 _ List.mem_cons_self
      · exact h2 _ (List.mem_cons_of_mem _ h)
    exact Int.le_antisymm hm hM
theorem simc_max : SimC K cl (fun xs H Q => rMax K xs H Q ∨ (∃ i j, xs = [.int i, .int j] ∧ Q (.int (if j > i then j else i)) H)) fMax := by
  intro ρ M H x c v M' S r h Q k
  unfold fMax at h
  split at h
  · cases h
    obtain ⟨c, d, rfl, r1, s1⟩ := rvs2 r
    rw [RV] at r1 s1
    exact .inr ⟨_, _, by rw [r1, s1], k _ _ _ S (Mo.refl _ _) (rv_int _)⟩
  · obtain ⟨xs, e1, h⟩ := Option.bind_eq_some_iff.mp h
    obtain ⟨is, e2, h⟩ := Option.bind_eq_some_iff.mp h
    split at h
    · cases h
    · rename_i ne
      cases h
      obtain ⟨c, rfl, r1⟩ := rvs1 r
      obtain ⟨a, cs, rfl, ra, g, rs⟩ := ref_lst S r1 e1
      rw [intsOf_eq e2] at rs
      have := rs.ints
      subst this
      refine .inl ⟨a, is, rfl, .inl (.inl g), List.length_pos_iff.mpr ne, fun m h1 h2 => ?_⟩
      rw [mx_is h1 h2]
      exact k _ _ _ S (Mo.refl _ _) (rv_int _)
  · cases h
theorem simc_list : SimC K cl (fun xs H Q => ∃ p ys, xs = [.ref p] ∧ (SqL K H p ys ∨ SqT K H p ys) ∧ ∀ l, H l = none → Q (.ref l) (upd H l (.lst ys))) fList := by
  intro ρ M H x c v M' S r h Q k
  unfold fList at h
  split at h
  · obtain ⟨c, rfl, r1⟩ := rvs1 r
    obtain ⟨xs, e, h⟩ := Option.map_eq_some_iff.mp h
    cases h
    obtain ⟨p, ys, rfl, q, rs⟩ := seqOf_sim S r1 e
    refine ⟨p, ys, rfl, q, fun l hl => ?_⟩
    obtain ⟨ρ', S', m', r'⟩ := new_lst S rs hl
    exact k _ _ _ S' m' r'
  · cases h
theorem simc_reprB : SimC K cl (fun xs H Q => ∃ b, xs = [.bl b] ∧ Q (.str (if b then "True" else "False")) H) fReprB := by
  intro ρ M H x c v M' S r h Q k
  unfold fReprB at h
  split at h
  · rename_i b
    cases h
    obtain ⟨c, rfl, r1⟩ := rvs1 r
    rw [RV] at r1
    refine ⟨_, by rw [r1], k _ _ _ S (Mo.refl _ _) ?_⟩
    cases b <;> exact rv_str _
  · cases h
theorem call_reprB : CallR X (.builtin "repr") (fun xs H Q => ∃ b, xs = [.bl b] ∧ Q (.str (if b then "True" else "False")) H) := by
  intro pins s σ H vs us Q I r h
  obtain ⟨b, rfl, q⟩ := h
  cases r with
  | cons r1 r2 =>
    cases r2
    obtain rfl : _ = Value.bool b := r1
    exact PySem.P.repr_of_bool ⟨.str (if b then "True" else "False"), H, I.tok _, by cases b <;> exact ⟨_, rfl⟩, q⟩
theorem CallR.or {f : Value} {r r' : List V → Hp → VK → Prop} (h : CallR X f r) (h' : CallR X f r') : CallR X f (fun xs H Q => r xs H Q ∨ r' xs H Q) :=
  fun pins s σ H vs us Q I rr q => q.elim (h pins s σ H vs us Q I rr) (h' pins s σ H vs us Q I rr)
/-! methods -/
def SimM (K : PySem.W.Frag) (cl : Cle) (r : V → List V → Hp → VK → Prop) (f : AM) : Prop := ∀ ⦃ρ M H x xs c cs v M'⦄, Sm K cl ρ M H → RV K ρ H x c → RVs K ρ H xs cs → f x xs M = some (v, M') → ∀ Q : VK, (∀ ρ' H' w, Sm K cl ρ' M' H' → Mo ρ H ρ' H' → RV K ρ' H' v w → Q w H') → r c cs H Q
theorem sim_lm {r : V → List V → Hp → VK → Prop} {f : AM} {to : TE} {t : TA} {a : AE} {g : AA} (hf : SimM K cl r f) (ha : SimE K cl to a) (hg : SimA K cl t g) : SimE K cl (tBM K "list" r to t) (eLM f a g) := by
  intro ρ M H σ c v M' S R h Q k
  obtain ⟨⟨x, M1⟩, e1, h⟩ := Option.bind_eq_some_iff.mp h
  cases x with
  | ref n =>
    dsimp only at h
    split at h
    case isFalse => cases h
    rename_i hl
    obtain ⟨xs, el⟩ := Option.isSome_iff_exists.mp hl
    obtain ⟨⟨y, N2⟩, e2, h⟩ := Option.bind_eq_some_iff.mp h
    refine ha S R e1 _ fun ρ1 H1 w1 S1 m1 r1 => ?_
    obtain ⟨ad, cs, rfl, ra, g1, rs⟩ := ref_lst S1 r1 el
    refine ⟨.inl ⟨rfl, cs, .inl (.inl g1)⟩, ?_⟩
    refine hg S1 (R.mo m1) e2 _ fun ρ2 H2 w2 S2 m2 r2 => ?_
    exact hf S2 (r1.mo m2) r2 h _ fun ρ3 H3 w3 S3 m3 r3 => k _ _ _ S3 ((m1.trans m2).trans m3) r3
  | _ => cases h
theorem sim_lm0 {r : V → List V → Hp → VK → Prop} {f : AM} {to : TE} {a : AE} (hf : SimM K cl r f) (ha : SimE K cl to a) : SimE K cl (tBM0 K "list" r to) (eLM f a gNil') := by
  intro ρ M H σ c v M' S R h Q k
  obtain ⟨⟨x, M1⟩, e1, h⟩ := Option.bind_eq_some_iff.mp h
  cases x with
  | ref n =>
    dsimp only at h
    split at h
    case isFalse => cases h
    rename_i hl
    obtain ⟨xs, el⟩ := Option.isSome_iff_exists.mp hl
    obtain ⟨⟨y, N2⟩, e2, h⟩ := Option.bind_eq_some_iff.mp h
    cases e2
    refine ha S R e1 _ fun ρ1 H1 w1 S1 m1 r1 => ?_
    obtain ⟨ad, cs, rfl, ra, g1, rs⟩ := ref_lst S1 r1 el
    refine ⟨.inl ⟨rfl, cs, .inl (.inl g1)⟩, ?_⟩
    exact hf S1 r1 RVs.nil h _ fun ρ3 H3 w3 S3 m3 r3 => k _ _ _ S3 (m1.trans m3) r3
  | _ => cases h
theorem simm_append : SimM K cl rAppend mAppend := by
  intro ρ M H x xs c cs v M' S r rs h Q k
  unfold mAppend at h
  split at h
  · obtain ⟨zs, e1, h⟩ := Option.bind_eq_some_iff.mp h
    split at h
    case isFalse => cases h
    rename_i hl
    cases h
    obtain ⟨y, rfl, r1⟩ := rvs1 rs
    obtain ⟨a, ds, rfl, ra, g, rz⟩ := ref_lst S r e1
    obtain ⟨S', m⟩ := set_lst S e1 ra (rz.append (RVs.cons r1 RVs.nil))
    exact ⟨a, ds, y, rfl, rfl, g, by rw [rz.length]; exact lt_sizeLine hl, k _ _ _ S' m rv_non⟩
  · cases h
theorem RVs.dropLast {ρ : Rho} {H : Hp} {xs : List AV} {cs : List V} (h : RVs K ρ H xs cs) : RVs K ρ H xs.dropLast cs.dropLast := by
  rw [List.dropLast_eq_take, List.dropLast_eq_take, h.length]
  exact h.take _
theorem RVs.erase {ρ : Rho} {H : Hp} : ∀ {xs : List AV} {cs : List V} (i : Nat), RVs K ρ H xs cs → RVs K ρ H (xs.eraseIdx i) (cs.eraseIdx i)
  | [], _, _, h => by rw [RVs] at h; subst h; exact RVs.nil
  | x :: xs, _, 0, h => by
    rw [RVs] at h
    obtain ⟨c, r, rfl, h1, h2⟩ := h
    exact h2
  | x :: xs, _, i + 1, h => by
    rw [RVs] at h
    obtain ⟨c, r, rfl, h1, h2⟩ := h
    exact RVs.cons h1 (RVs.erase i h2)
theorem simm_pop : SimM K cl rPop mPop ∧ SimM K cl rPopAt mPop → True := fun _ => trivial
def mPop0 : AM := fun x vs M => match x, vs with
  | .ref n, [] => (M.lst n).bind fun xs => (xs[xs.length - 1]?).map fun y => (y, M.set n (.lst xs.dropLast))
  | _, _ => none
def mPop1 : AM := fun x vs M => match x, vs with
  | .ref n, [.int i] => (M.lst n).bind fun xs => if -(2 ^ 63) ≤ i ∧ i < 2 ^ 63 then (seqIndex? i xs.length).bind fun k => (xs[k]?).map fun y => (y, M.set n (.lst (xs.eraseIdx k))) else none
  | _, _ => none
theorem simm_pop0 : SimM K cl rPop mPop0 := by
  intro ρ M H x xs c cs v M' S r rs h Q k
  unfold mPop0 at h
  split at h
  · obtain ⟨zs, e1, h⟩ := Option.bind_eq_some_iff.mp h
    obtain ⟨y, e2, h⟩ := Option.map_eq_some_iff.mp h
    cases h
    rw [RVs] at rs
    subst rs
    obtain ⟨a, ds, rfl, ra, g, rz⟩ := ref_lst S r e1
    obtain ⟨z, e3, r3⟩ := rz.get e2
    obtain ⟨S', m⟩ := set_lst S e1 ra rz.dropLast
    exact ⟨a, ds, z, rfl, rfl, g, by rw [rz.length]; exact e3, k _ _ _ S' m (r3.mo m)⟩
  · cases h
theorem simm_pop1 : SimM K cl rPopAt mPop1 := by
  intro ρ M H x xs c cs v M' S r rs h Q k
  unfold mPop1 at h
  split at h
  · obtain ⟨zs, e1, h⟩ := Option.bind_eq_some_iff.mp h
    split at h
    case isFalse => cases h
    rename_i hb
    obtain ⟨j, e2, h⟩ := Option.bind_eq_some_iff.mp h
    obtain ⟨y, e3, h⟩ := Option.map_eq_some_iff.mp h
    cases h
    obtain ⟨i', rfl, r1⟩ := rvs1 rs
    rw [RV] at r1
    subst r1
    obtain ⟨a, ds, rfl, ra, g, rz⟩ := ref_lst S r e1
    obtain ⟨z, e4, r3⟩ := rz.get e3
    obtain ⟨S', m⟩ := set_lst S e1 ra (rz.erase j)
    exact ⟨a, ds, _, j, z, rfl, rfl, g, hb.1, hb.2, by rw [rz.length]; exact e2, e4, k _ _ _ S' m (r3.mo m)⟩
  · cases h
/-! slices -/
def SimO (K : PySem.W.Frag) (cl : Cle) (t : TO) (a : AO') : Prop := ∀ ⦃ρ M H σ c v M'⦄, Sm K cl ρ M H → RS K ρ H σ c → a σ M = some (v, M') → ∀ Q : Option Int → Hp → Prop, (∀ ρ' H', Sm K cl ρ' M' H' → Mo ρ H ρ' H' → Q v H') → t c H Q
theorem simo_none : SimO K cl tNoPart pNone := by
  intro ρ M H σ c v M' S R h Q k
  cases h
  exact k _ _ S (Mo.refl _ _)
theorem simo_some {t : TE} {a : AE} (ha : SimE K cl t a) : SimO K cl (tPart t) (pPart a) := by
  intro ρ M H σ c v M' S R h Q k
  obtain ⟨⟨x, M1⟩, e1, h⟩ := Option.bind_eq_some_iff.mp h
  refine ha S R e1 _ fun ρ1 H1 w1 S1 m1 r1 => ?_
  cases x with
  | int i =>
    cases h
    rw [RV] at r1
    exact ⟨i, r1, k _ _ S1 m1⟩
  | _ => cases h
theorem RVs.cut {ρ : Rho} {H : Hp} {xs : List AV} {cs : List V} {lo hi : Option Int} (h : RVs K ρ H xs cs) : RVs K ρ H (cutA xs lo hi) (cutV cs lo hi) := by
  unfold cutA cutV
  rw [h.length]
  exact (h.drop _).take _
theorem sim_sl {te : TE} {tl tu : TO} {a : AE} {l u : AO'} (ha : SimE K cl te a) (hl : SimO K cl tl l) (hu : SimO K cl tu u) : SimE K cl (tSl (rSlL K) te tl tu) (eSl a l u) := by
  intro ρ M H σ c v M' S R h Q k
  obtain ⟨⟨x, M1⟩, e1, h⟩ := Option.bind_eq_some_iff.mp h
  obtain ⟨⟨y, N2⟩, e2, h⟩ := Option.bind_eq_some_iff.mp h
  obtain ⟨⟨z, M3⟩, e3, h⟩ := Option.bind_eq_some_iff.mp h
  refine ha S R e1 _ fun ρ1 H1 w1 S1 m1 r1 => ?_
  refine hl S1 (R.mo m1) e2 _ fun ρ2 H2 S2 m2 => ?_
  refine hu S2 (R.mo (m1.trans m2)) e3 _ fun ρ3 H3 S3 m3 => ?_
  have fin : ∀ {a : Addr} {xs : List AV} {cs : List V}, SqL K H3 a cs → RVs K ρ3 H3 xs cs → some (AV.ref M3.next, M3.new (.lst (cutA xs y z))) = some (v, M') → rSlL K (.ref a) y z H3 Q := by
    intro a xs cs sq rs e
    cases e
    refine ⟨a, cs, rfl, sq, fun p hp => ?_⟩
    obtain ⟨ρ', S', m', r'⟩ := new_lst S3 (rs.cut (lo := y) (hi := z)) hp
    exact k _ _ _ S' (((m1.trans m2).trans m3).trans m') r'
  cases x with
  | ref n =>
    obtain ⟨xs, el, h⟩ := Option.map_eq_some_iff.mp h
    obtain ⟨a, cs, rfl, ra, g, rs⟩ := ref_lst S3 (r1.mo (m2.trans m3)) el
    exact fin (.inl (.inl g)) rs (congrArg some h)
  | ro xs =>
    have r1 := r1.mo (m2.trans m3)
    rw [RV] at r1
    obtain ⟨a, cs, rfl, g, rs⟩ := r1
    exact fin g.sql rs h
  | _ => cases h
/-! what is walked -/
theorem simi_r1 {ta : TA} {a : AA} (ha : SimA K cl ta a) : SimI K cl (iRng1 ta) (itR1 a) := by
  intro ρ M H σ c I M' S R h Q k
  obtain ⟨⟨x, M1⟩, e1, h⟩ := Option.bind_eq_some_iff.mp h
  refine ha S R e1 _ fun ρ1 H1 w S1 m1 r1 => ?_
  dsimp only at h
  split at h
  · rename_i j
    split at h
    case isFalse => cases h
    rename_i hb
    cases h
    obtain ⟨c, rfl, r2⟩ := rvs1 r1
    rw [RV] at r2
    subst r2
    refine ⟨j, rfl, hb.1, hb.2, k _ _ _ S1 m1 fun ρ2 M2 H2 i S2 m2 _ => ⟨fun e => ?_, fun x e => ?_⟩⟩
    · have := List.getElem?_eq_none_iff.mp e
      rw [List.length_map, List.length_range] at this
      exact this
    · have hlt := (List.getElem?_eq_some_iff.mp e).1
      have hlt : i < j.toNat := by simpa using hlt
      refine ⟨hlt, fun y H3 hy => ?_⟩
      obtain ⟨rfl, rfl⟩ := hy
      refine ⟨ρ2, S2, Mo.refl _ _, ?_⟩
      have e' : AV.int (i : Nat) = x := by simpa [List.getElem?_map, List.getElem?_range, hlt] using e
      subst e'
      rw [Int.zero_add]
      exact rv_int _
  · cases h
theorem simi_r2 {ta : TA} {a : AA} (ha : SimA K cl ta a) : SimI K cl (iRng2 ta) (itR2 a) := by
  intro ρ M H σ c I M' S R h Q k
  obtain ⟨⟨x, M1⟩, e1, h⟩ := Option.bind_eq_some_iff.mp h
  refine ha S R e1 _ fun ρ1 H1 w S1 m1 r1 => ?_
  dsimp only at h
  split at h
  · rename_i i0 j
    split at h
    case isFalse => cases h
    rename_i hb
    cases h
    obtain ⟨c, d, rfl, r2, r3⟩ := rvs2 r1
    rw [RV] at r2 r3
    subst r2 r3
    refine ⟨i0, j, rfl, ⟨hb.1, hb.2.1, hb.2.2.1, hb.2.2.2⟩, k _ _ _ S1 m1 fun ρ2 M2 H2 i S2 m2 _ => ⟨fun e => ?_, fun x e => ?_⟩⟩
    · have := List.getElem?_eq_none_iff.mp e
      show _ ≤ i
      simpa using this
    · have hlt := (List.getElem?_eq_some_iff.mp e).1
      have hlt : i < (j - i0).toNat := by simpa using hlt
      refine ⟨hlt, fun y H3 hy => ?_⟩
      obtain ⟨rfl, rfl⟩ := hy
      refine ⟨ρ2, S2, Mo.refl _ _, ?_⟩
      have e' : AV.int (i0 + (i : Nat)) = x := by simpa [List.getElem?_map, List.getElem?_range, hlt] using e
      subst e'
      exact rv_int _
  · cases h
/-! comprehensions -/
theorem sim_yes : SimT K cl tYes qYes := by
  intro ρ M H σ c v M' S R h Q k
  cases h
  exact k _ _ S (Mo.refl _ _)
theorem sim_lc {wi : TI} {it : AI} {i : Nat} {tt : TT} {te : TE} {q : AT} {a : AE} (hi : SimI K cl wi it) (ht : SimT K cl tt q) (ha : SimE K cl te a) : SimE K cl (tLc wi (gName i) tt te [i]) (eLc it i q a) := by
  intro ρ M H σ c v M' S R h Q k
  obtain ⟨⟨I, M1⟩, e1, h⟩ := Option.bind_eq_some_iff.mp h
  obtain ⟨Mf, e2, h⟩ := Option.map_eq_some_iff.mp h
  cases h
  refine hi S R e1 _ fun ρ1 H1 J S1 m1 hJ => ?_
  intro D hD
  obtain ⟨ρ0, S0, m0, r0⟩ := new_lst S1 (xs := []) RVs.nil hD
  rw [RV] at r0
  obtain ⟨D', e, rD⟩ := r0
  cases e
  dsimp only at e2
  have hw : ∀ x, (c.set i none).set i (some x) = c.set i (some x) := fun x => List.set_set _
  refine ⟨fun j m H' => ∃ ρ2 M2, Sm K cl ρ2 M2 H' ∧ Mo ρ0 (upd H1 D (.lst [])) ρ2 H' ∧ m = (I.all.drop j).length ∧ lcGo M1.next I.ok q a i σ (I.all.drop j) M2 = some M', ⟨_, ρ0, _, S0, Mo.refl _ _, rfl, e2⟩, ?_⟩
  rintro j m H2 ⟨ρ2, M2, S2, m2, rfl, h2⟩
  have R2 : RS K ρ2 H2 σ c := R.mo ((m1.trans m0).trans m2)
  cases hx : I.all[j]? with
  | none =>
    have hd : I.all.drop j = [] := List.drop_eq_nil_of_le (List.getElem?_eq_none_iff.mp hx)
    rw [hd] at h2
    unfold lcGo at h2
    split at h2
    · rename_i hok
      cases h2
      exact .inl ⟨(hJ j S2 (m0.trans m2) hok).1 hx, k _ _ _ S2 ((m1.trans m0).trans m2) (by rw [RV]; exact ⟨D, rfl, m2.le _ _ rD⟩)⟩
    · cases h2
  | some x =>
    have hlt := (List.getElem?_eq_some_iff.mp hx).1
    have hd : I.all.drop j = x :: I.all.drop (j + 1) := by
      rw [List.drop_eq_getElem_cons hlt]
      rw [(List.getElem?_eq_some_iff.mp hx).2]
    rw [hd] at h2
    unfold lcGo at h2
    split at h2
    case isFalse => cases h2
    rename_i hok
    obtain ⟨⟨b, M4⟩, e3, h2⟩ := Option.bind_eq_some_iff.mp h2
    obtain ⟨go, yld⟩ := (hJ j S2 (m0.trans m2) hok).2 x hx
    -- what a turn is to reach
    refine .inr ⟨go, fun H5 => ∃ ρ5 M5, Sm K cl ρ5 M5 H5 ∧ Mo ρ0 (upd H1 D (.lst [])) ρ5 H5 ∧ lcGo M1.next I.ok q a i σ (I.all.drop (j + 1)) M5 = some M', ?_, ?_⟩
    · rintro H5 ⟨ρ5, M5, S5, m5, h5⟩
      exact ⟨(I.all.drop (j + 1)).length, by rw [hd, List.length_cons]; omega, ρ5, M5, S5, m5, rfl, h5⟩
    · intro y H3 hy
      obtain ⟨ρ3, S3, m3, r3⟩ := yld y H3 hy
      show wipe ((wipe c [i]).set i (some y)) [i] = wipe c [i] ∧ tt ((wipe c [i]).set i (some y)) H3 _
      have ew : wipe c [i] = c.set i none := rfl
      refine ⟨by rw [ew]; show ((c.set i none).set i (some y)).set i none = c.set i none; rw [hw, List.set_set], ?_⟩
      rw [ew, hw]
      have R3 : RS K ρ3 H3 (σ.set i (some x)) (c.set i (some y)) := RS.set (x := some x) (y := some y) r3 i (R2.mo m3)
      refine ht S3 R3 e3 _ fun ρ4 H4 S4 m4 => ?_
      cases b with
      | false =>
        rw [if_neg (by simp)] at h2
        exact ⟨ρ4, M4, S4, (m2.trans m3).trans m4, h2⟩
      | true =>
        rw [if_pos rfl] at h2
        obtain ⟨⟨z, M5⟩, e4, h2⟩ := Option.bind_eq_some_iff.mp h2
        obtain ⟨acc, e5, h2⟩ := Option.bind_eq_some_iff.mp h2
        split at h2
        case isFalse => cases h2
        rename_i hl
        refine ha S4 (R3.mo m4) e4 _ fun ρ5 H5 w5 S5 m5 r5 => ?_
        have mm := ((m2.trans m3).trans m4).trans m5
        have rD5 : RV K ρ5 H5 (.ref M1.next) (.ref D) := by rw [RV]; exact ⟨D, rfl, mm.le _ _ rD⟩
        obtain ⟨a', cs, ea, ra, g, rs⟩ := ref_lst S5 rD5 e5
        cases ea
        obtain ⟨S6, m6⟩ := set_lst S5 e5 ra (rs.append (RVs.cons r5 RVs.nil))
        exact ⟨cs, g, by rw [rs.length]; exact lt_sizeLine hl, ρ5, _, S6, mm.trans m6, h2⟩
end

/-! ### max(xs, default=d) -/
theorem alike_ints (ns : List Int) : PySem.W.AlikeAll (ns.map PyData.int) := by
  refine ⟨fun x hx y hy => ?_, fun x hx => ?_⟩
  · obtain ⟨i, _, rfl⟩ := List.mem_map.mp hx
    obtain ⟨j, _, rfl⟩ := List.mem_map.mp hy
    rfl
  · obtain ⟨i, _, rfl⟩ := List.mem_map.mp hx
    exact fun z => nomatch z
theorem depth_ints : ∀ ns : List Int, PyData.depthAll (ns.map PyData.int) = 0
  | [] => by rw [List.map_nil, PyData.depthAll]
  | n :: ns => by rw [List.map_cons, PyData.depthAll, depth_ints ns, PyData.depth]; rfl
def rMaxDf (K : PySem.W.Frag) : List V → List V → Hp → VK → Prop := fun vs zs H Q => ∃ (a : Addr) (ns : List Int) (d : Int), vs = [.ref a] ∧ zs = [.int d] ∧ SqL K H a (ns.map V.int) ∧ Q (.int (if ns = [] then d else mx ns)) H
theorem cr_maxDf {X : Cx} (hc : X.calm = true) (hu : X.A.units + 1 < cLine) : CallRK X (.builtin "max") [Str.ofString "default"] (rMaxDf X.K) := by
  intro pins s σ H vs zs us ws Q I r rz h
  obtain ⟨a, ns, d, rfl, rfl, hs, q⟩ := h
  obtain rfl := Vals.ref1 r
  obtain ⟨w1, rfl, t, rfl⟩ := vals1 rz
  obtain ⟨its, rv, hl, _⟩ := I.list hs
  have hd : ∀ ns : List Int, DpAll X.K H (ns.map V.int) (ns.map PyData.int) := fun ns => by
    induction ns with
    | nil => exact .nil
    | cons n ns ih => exact .cons (.int n) ih
  obtain ⟨as, hr⟩ := Dp.readsAll I _ _ _ (hd ns) rv
  refine PySem.W.max_list_default (xs := ns.map PyData.int) (I.ok.hd hc) hl.isList (by simpa using hr) (alike_ints ns) (by rw [depth_ints]; exact hu) (fun e h' tk hk => ?_) (fun y ys i v h' tk bs e hv hrd hk => ?_)
  · have : ns = [] := List.map_eq_nil_iff.mp e
    rw [if_pos this] at q
    exact ⟨.int d, H, I.kept hk, ⟨_, rfl⟩, q⟩
  · cases ns with
    | nil => cases e
    | cons n ns =>
      rw [List.map_cons] at e
      cases e
      rw [PySem.W.maxD_ints] at hrd
      cases hrd
      rw [if_neg (fun z => nomatch z)] at q
      exact ⟨.int (ns.foldl max n), H, I.kept hk, ⟨_, rfl⟩, q⟩
def eKw (f : List AV → AF) (a k : AA) : AE := fun σ M => (a σ M).bind fun p => (k σ p.2).bind fun q => f p.1 q.1 q.2
theorem sim_maxDf {K : PySem.W.Frag} {cl : Cle} {t tk : TA} {a b : AA} (ha : SimA K cl t a) (hb : SimA K cl tk b) : SimE K cl (tCKw (rMaxDf K) t tk) (eKw fMaxD a b) := by
  intro ρ M H σ c v M' S R h Q k
  obtain ⟨⟨x, M1⟩, e1, h⟩ := Option.bind_eq_some_iff.mp h
  obtain ⟨⟨y, N2⟩, e2, h⟩ := Option.bind_eq_some_iff.mp h
  refine ha S R e1 _ fun ρ1 H1 w1 S1 m1 r1 => ?_
  refine hb S1 (R.mo m1) e2 _ fun ρ2 H2 w2 S2 m2 r2 => ?_
  dsimp only at h
  unfold fMaxD at h
  split at h
  · obtain ⟨xs, e3, h⟩ := Option.bind_eq_some_iff.mp h
    obtain ⟨is, e4, h⟩ := Option.bind_eq_some_iff.mp h
    obtain ⟨c1, rfl, r3⟩ := rvs1 r1
    obtain ⟨d1, rfl, r4⟩ := rvs1 r2
    rw [RV] at r4
    subst r4
    obtain ⟨ad, cs, rfl, ra, g, rs⟩ := ref_lst S2 (r3.mo m2) e3
    rw [intsOf_eq e4] at rs
    have := rs.ints
    subst this
    refine ⟨ad, is, _, rfl, rfl, .inl (.inl g), ?_⟩
    split at h
    · rename_i z
      cases h
      rw [if_pos z]
      exact k _ _ _ S2 (m1.trans m2) (rv_int _)
    · rename_i z
      cases h
      rw [if_neg z]
      exact k _ _ _ S2 (m1.trans m2) (rv_int _)
  · cases h
end Sy
namespace Sy
open PySem L2 PySem.Spec PyProof.Rows
section
variable {X : Cx} {cl : Cle} {pos pos' apos cpos p : Pos} {a b c e o : Expr} {es : List Expr} {ea eb ec : AE} {qa qb qc : AT} {ra : AA} {sa sb : AS} {st : Stmt} {sts sts' : List Stmt} {K : PySem.W.Frag}
/-! ### expressions -/
theorem ae_var (i : Nat) {x : Str} (hN : X.N[i]? = some x := by rfl) (hv : Vis X.env.scope x := by first | exact Or.inl rfl | exact Or.inr (Or.inl rfl) | exact Or.inr (Or.inr rfl)) (hd : (x == ("__debug__" : Str)) = false := by decide)
    (hcd : (x == ("__classdict__" : Str)) = false := by decide) : PEa X cl (.Name x pos) (eVar i) := ⟨_, pe_var hN hv hd hcd, sim_var⟩
theorem ae_int {i : Int} {j : Nat} : PEa X cl (.Constant (.int i) j pos) (eC (.int i)) := ⟨_, pe_int, sim_c fun _ _ => rv_int _⟩
theorem ae_bl {i : Bool} {j : Nat} : PEa X cl (.Constant (.bool i) j pos) (eC (.bl i)) := ⟨_, pe_bl, sim_c fun _ _ => rv_bl _⟩
theorem ae_non {j : Nat} : PEa X cl (.Constant .none j pos) (eC .non) := ⟨_, pe_non, sim_c fun _ _ => rv_non⟩
theorem ae_str {x : String} {j : Nat} : PEa X cl (.Constant (.str (Str.ofString x)) j pos) (eC (.str x)) := ⟨_, pe_str, sim_c fun _ _ => rv_str _⟩
theorem ae_globI {x : Str} {i : Int} {u : Value} (hg : Gl X x) (hm : X.mg x = some u) (r : RelV (.int i) u) (hd : (x == ("__debug__" : Str)) = false := by decide) : PEa X cl (.Name x pos) (eC (.int i)) := ⟨_, pe_glob hg hm r hd, sim_c fun _ _ => rv_int _⟩
def BinA (X : Cx) (cl : Cle) (op : Operator) (f : A2) : Prop := ∃ r, OpR X (binaryOp op) r ∧ Sim2 X.K cl r f
def CmpA (X : Cx) (cl : Cle) (op : CmpOp) (f : A2) : Prop := ∃ r, OpR X (compareOp op) r ∧ Sim2 X.K cl r f
theorem ab_add : BinA X cl .Add oAdd := ⟨_, op_add.or (op_cat.or op_catA), sim_add⟩
theorem ab_addI : BinA X cl .Add oAddI := ⟨_, op_add, sim_addI⟩
theorem ab_sub : BinA X cl .Sub oSub := ⟨_, op_sub, sim_sub⟩
theorem ab_mul : BinA X cl .Mult oMul := ⟨_, op_mul, sim_mul⟩
theorem ab_div : BinA X cl .FloorDiv oDiv := ⟨_, op_fdiv, sim_div⟩
theorem ab_mod : BinA X cl .Mod oMod := ⟨_, op_mod, sim_mod⟩
theorem ac_lt : CmpA X cl .Lt oLt := ⟨_, op_lt, sim_lt⟩
theorem ac_le : CmpA X cl .LtE oLe := ⟨_, op_le, sim_le⟩
theorem ac_gt : CmpA X cl .Gt oGt := ⟨_, op_gt, sim_gt⟩
theorem ac_ge : CmpA X cl .GtE oGe := ⟨_, op_ge, sim_ge⟩
theorem ac_eq (hu : X.A.units + 64 < cLine) : CmpA X cl .Eq oEq := ⟨_, op_eqD hu, sim_eq⟩
theorem ac_ne (hu : X.A.units + 64 < cLine) : CmpA X cl .NotEq oNe := ⟨_, op_neD hu, sim_ne⟩
theorem ac_is : CmpA X cl .Is oIsN := ⟨_, op_isN, sim_isN⟩
theorem ac_isNot : CmpA X cl .IsNot oNotN := ⟨_, op_notN, sim_notN⟩
theorem ae_op {op : Operator} {f : A2} (h : BinA X cl op f) (ha : PEa X cl a ea) (hb : PEa X cl b eb) : PEa X cl (.BinOp a op b pos) (eBin f ea eb) := by
  obtain ⟨r, h1, h2⟩ := h
  obtain ⟨ta, a1, a2⟩ := ha
  obtain ⟨tb, b1, b2⟩ := hb
  exact ⟨_, pe_op h1 a1 b1, sim_bin h2 a2 b2⟩
theorem ae_cmp {op : CmpOp} {f : A2} (h : CmpA X cl op f) (ha : PEa X cl a ea) (hb : PEa X cl b eb) (hm : behindInMarks op b = false) : PEa X cl (.Compare a [op] [b] pos) (eBin f ea eb) := by
  obtain ⟨r, h1, h2⟩ := h
  obtain ⟨ta, a1, a2⟩ := ha
  obtain ⟨tb, b1, b2⟩ := hb
  exact ⟨_, pe_cmpR h1 a1 b1 hm, sim_bin h2 a2 b2⟩
theorem ae_if (hq : PTa X cl c qc) (ha : PEa X cl a ea) (hb : PEa X cl b eb) : PEa X cl (.IfExp c a b pos) (eIf qc ea eb) := by
  obtain ⟨tq, q1, q2⟩ := hq
  obtain ⟨ta, a1, a2⟩ := ha
  obtain ⟨tb, b1, b2⟩ := hb
  exact ⟨_, pe_ifExp q1 a1 b1, sim_if q2 a2 b2⟩
theorem ae_fld {f : String} (ha : PEa X cl e ea) (hb : attributeBase e (Str.ofString f) X.env (eval e X.env) = eval e X.env := by rfl) : PEa X cl (.Attribute e (Str.ofString f) pos) (eFld f ea) := by
  obtain ⟨ta, a1, a2⟩ := ha
  exact ⟨_, pe_fld a1 hb, sim_fld a2⟩
theorem aa_nil : PAa X cl [] gNil' := ⟨_, pa_nil, sim_nil⟩
theorem aa_cons (ha : PEa X cl e ea) (hr : PAa X cl es ra) (hs : starEach (e :: es) X.env = (false, eval e X.env) :: starEach es X.env := by rfl) : PAa X cl (e :: es) (gCons' ea ra) := by
  obtain ⟨ta, a1, a2⟩ := ha
  obtain ⟨tr, r1, r2⟩ := hr
  exact ⟨_, pa_cons a1 r1 hs, sim_cons a2 r2⟩
theorem ae_tup {j : Nat} (ha : PAa X cl es ra) : PEa X cl (.Tuple es j pos) (eArgs fTup ra) := by
  obtain ⟨t, a1, a2⟩ := ha
  exact ⟨_, pe_tup a1, sim_args simc_tup a2⟩
theorem ae_lst (ha : PAa X cl es ra) : PEa X cl (.List es pos) (eArgs fLst ra) := by
  obtain ⟨t, a1, a2⟩ := ha
  exact ⟨_, pe_lst a1, sim_args simc_lst a2⟩
theorem ae_dnewT (hP : cl.P = X.prog := by rfl) (hw : cl.w = X.w := by rfl) : PEa X cl (.Dict [] [] pos) eDNewT := ⟨_, pe_xnew, sim_dnewT hP hw⟩
theorem ae_dnewK : PEa X cl (.Dict [] [] pos) eDNewK := ⟨_, pe_dnewK, sim_dnewK⟩
theorem ae_sub (hu : X.A.units + 1 < cLine) (ha : PEa X cl a ea) (hb : PEa X cl b eb) (hs : PlainIx b := by exact fun _ _ => rfl) (hs2 : NoSl b := by exact fun _ _ => rfl) (hP : cl.P = X.prog := by rfl) (hw : cl.w = X.w := by rfl) : PEa X cl (.Subscript a b pos) (eSub ea eb) := by
  obtain ⟨ta, a1, a2⟩ := ha
  obtain ⟨tb, b1, b2⟩ := hb
  exact ⟨_, PE.or (pe_ix ix_seq a1 b1 hs) (PE.or (pe_dget hu a1 b1 hs2) (pe_xget hu a1 b1 hs2)), sim_sub2 hP hw a2 b2⟩
theorem ae_get2 (hu : X.A.units + 1 < cLine) (ha : PEa X cl a ea) (hb : PEa X cl b eb) (hc : PEa X cl c ec) (m : M2 X a "get" apos b c cpos) (hP : cl.P = X.prog := by rfl) (hw : cl.w = X.w := by rfl) : PEa X cl (.Call (.Attribute a (Str.ofString "get") apos) [b, c] [] cpos) (eGet2 ea eb ec) := by
  obtain ⟨ta, a1, a2⟩ := ha
  obtain ⟨tb, b1, b2⟩ := hb
  obtain ⟨tc, c1, c2⟩ := hc
  exact ⟨_, PE.or (pe_dget2 hu a1 b1 c1 m) (pe_xget2 hu a1 b1 c1 m), sim_get2 hP hw a2 b2 c2⟩
theorem ae_get1 (hu : X.A.units + 1 < cLine) (ha : PEa X cl a ea) (hb : PEa X cl b eb) (m : M1 X a "get" apos b cpos) (hP : cl.P = X.prog := by rfl) (hw : cl.w = X.w := by rfl) : PEa X cl (.Call (.Attribute a (Str.ofString "get") apos) [b] [] cpos) (eGet1 ea eb) := by
  obtain ⟨ta, a1, a2⟩ := ha
  obtain ⟨tb, b1, b2⟩ := hb
  exact ⟨_, PE.or (pe_dget1 hu a1 b1 m) (pe_xget1 hu a1 b1 m), sim_get1 hP hw a2 b2⟩
def CallA (X : Cx) (cl : Cle) (f : Value) (g : AF) : Prop := ∃ r, CallR X f r ∧ SimC X.K cl r g
theorem af_abs : CallA X cl (.builtin "abs") fAbs := ⟨_, call_abs, simc_abs⟩
theorem af_int : CallA X cl (.type "int") fInt := ⟨_, call_int1, simc_int⟩
theorem af_len : CallA X cl (.builtin "len") fLen := ⟨_, CallR.or call_len_seq call_lenD, simc_len⟩
theorem af_max (hc : X.calm = true) : CallA X cl (.builtin "max") fMax := ⟨_, CallR.or (cr_max hc) (call_max2 hc), simc_max⟩
theorem af_list : CallA X cl (.type "list") fList := ⟨_, call_list_of, simc_list⟩
theorem af_reprB : CallA X cl (.builtin "repr") fReprB := ⟨_, call_reprB, simc_reprB⟩
theorem ae_callB {id : String} {g : AF} {x : Str} (h : CallA X cl (.builtin id) g) (hg : Gl X x) (hm : X.mg x = none) (hv : bootBuiltins x = some (.builtin id)) (ha : PAa X cl (e :: es) ra) (hn : x ≠ "__name__" := by decide) (hdb : (x == ("__debug__" : Str)) = false := by decide)
    (he : starEach (e :: es) X.env = (false, eval e X.env) :: starEach es X.env := by rfl) (hpl : (backTo pos (starEach es X.env)).any (·.1) = false := by rfl) : PEa X cl (.Call (.Name x p) (e :: es) [] pos) (eArgs g ra) := by
  obtain ⟨r, h1, h2⟩ := h
  obtain ⟨t, a1, a2⟩ := ha
  exact ⟨_, pe_callB h1 hg hm hv a1 hn hdb he hpl, sim_args h2 a2⟩
theorem ae_callT {T : String} {g : AF} {x : Str} (h : CallA X cl (.type T) g) (hg : Gl X x) (hm : X.mg x = none) (hv : bootBuiltins x = some (.type T)) (ha : PAa X cl (e :: es) ra) (hn : x ≠ "__name__" := by decide) (hdb : (x == ("__debug__" : Str)) = false := by decide)
    (he : starEach (e :: es) X.env = (false, eval e X.env) :: starEach es X.env := by rfl) (hpl : (backTo pos (starEach es X.env)).any (·.1) = false := by rfl) : PEa X cl (.Call (.Name x p) (e :: es) [] pos) (eArgs g ra) := by
  obtain ⟨r, h1, h2⟩ := h
  obtain ⟨t, a1, a2⟩ := ha
  exact ⟨_, pe_callTy h1 hg hm hv a1 hn hdb he hpl, sim_args h2 a2⟩
def PKa (X : Cx) (cl : Cle) (kws : List Keyword) (a : AA) : Prop := ∃ t, PK X kws t ∧ SimA X.K cl t a
theorem ak_nil : PKa X cl [] gNil' := ⟨_, pk_nil, sim_nil⟩
theorem ak_cons {nm : Option Str} {kpos : Pos} {kws : List Keyword} (ha : PEa X cl e ea) (hr : PKa X cl kws ra) : PKa X cl (⟨nm, e, kpos⟩ :: kws) (gCons' ea ra) := by
  obtain ⟨ta, a1, a2⟩ := ha
  obtain ⟨tr, r1, r2⟩ := hr
  exact ⟨_, pk_cons a1 r1, sim_cons a2 r2⟩
theorem ae_maxD {x : Str} {kws : List Keyword} {rk : AA} (hc : X.calm = true) (hu : X.A.units + 1 < cLine) (hg : Gl X x) (hm : X.mg x = none) (hv : bootBuiltins x = some (.builtin "max")) (ha : PAa X cl (e :: es) ra) (hk : PKa X cl kws rk) (hn : x ≠ "__name__" := by decide) (hdb : (x == ("__debug__" : Str)) = false := by decide)
    (he : backTo pos (starEach (e :: es) X.env) = (false, eval e X.env) :: backTo pos (starEach es X.env) := by rfl) (hpl : (backTo pos (starEach (e :: es) X.env)).any (·.1) = false := by rfl)
    (hall : (backToKw pos (keywordEach kws X.env)).all (·.1.isSome) = true := by rfl) (hnone : (backToKw pos (keywordEach kws X.env)).any (·.1.isNone) = false := by rfl) (hks : (backToKw pos (keywordEach kws X.env)).filterMap (·.1) = [Str.ofString "default"] := by rfl) :
    PEa X cl (.Call (.Name x p) (e :: es) kws pos) (eKw fMaxD ra rk) := by
  obtain ⟨t, a1, a2⟩ := ha
  obtain ⟨tk, b1, b2⟩ := hk
  exact ⟨_, pe_callBK (cr_maxDf hc hu) hg hm hv a1 b1 hn hdb he hpl hall hnone hks, sim_maxDf a2 b2⟩
/-! calls of the program's own -/
theorem ae_call {x : Str} {f : Addr} {fd : FuncData} {k : Nat} {ps : List Str} {m : AF} (F : FnOk X.prog X.w X.K X.mg X.base CX0 k f fd ps (spA X.K cl m)) (hr : Room k X.A) (hg : Gl X x) (hm : X.mg x = some (.ref f)) (hk : PySem.W.keepIn X.K (.ref f) = true) (hb : Binds X.K fd ps [])
    (ha : PAa X cl (e :: es) ra) (hdb : (x == ("__debug__" : Str)) = false := by decide) (he : starEach (e :: es) X.env = (false, eval e X.env) :: starEach es X.env := by rfl) (hpl : (backTo pos (starEach es X.env)).any (·.1) = false := by rfl) :
    PEa X cl (.Call (.Name x p) (e :: es) [] pos) (eArgs m ra) := by
  obtain ⟨t, a1, a2⟩ := ha
  exact ⟨_, pe_call F hr hg hm hk hb .nil pass0 a1 hdb he hpl, sim_call a2⟩
theorem ae_make {x : Str} {f : Addr} {fd : FuncData} {k : Nat} {ps : List Str} {m : AF} {cn : String} (hc : Cls X.K (cl cn)) (M : Mk X.K (cl cn) f) (F : FnOk X.prog X.w X.K X.mg X.base CX0 k f fd ps (spA X.K cl m)) (hr : Room (k + 1) X.A) (hg : Gl X x) (hm : X.mg x = some (.ref (cl cn))) (hb : Binds X.K fd ps [])
    (ha : PAa X cl (e :: es) ra) (hdb : (x == ("__debug__" : Str)) = false := by decide) (he : starEach (e :: es) X.env = (false, eval e X.env) :: starEach es X.env := by rfl) (hpl : (backTo pos (starEach es X.env)).any (·.1) = false := by rfl) :
    PEa X cl (.Call (.Name x p) (e :: es) [] pos) (eMake cn m ra) := by
  obtain ⟨t, a1, a2⟩ := ha
  exact ⟨_, pe_make M F hr hg hm hb .nil pass0 a1 hdb he hpl, sim_make hc a2⟩
theorem ae_make0 {x : Str} {f : Addr} {fd : FuncData} {k : Nat} {ps : List Str} {m : AF} {cn : String} (hc : Cls X.K (cl cn)) (M : Mk X.K (cl cn) f) (F : FnOk X.prog X.w X.K X.mg X.base CX0 k f fd ps (spA X.K cl m)) (hr : Room (k + 1) X.A) (hg : Gl X x) (hm : X.mg x = some (.ref (cl cn))) (hb : Binds X.K fd ps [])
    (hdb : (x == ("__debug__" : Str)) = false := by decide) :
    PEa X cl (.Call (.Name x p) [] [] pos) (eMake cn m gNil') := ⟨_, pe_make0 M F hr hg hm hb .nil pass0 hdb, sim_make hc sim_nil⟩
structure MethOk (P : Program) (w : World) (K : PySem.W.Frag) (mg : Str → Option Value) (base : Heap) (A : Around) (cl : Cle) (nm : String) (c : String) (m : AF) : Prop where
  ex : ∃ (f : Addr) (fd : FuncData) (k : Nat) (ps : List Str), Cls K (cl c) ∧ Meth K (cl c) (Str.ofString nm) f ∧ FnOk P w K mg base CX0 k f fd ps (spA K cl m) ∧ Room k A ∧ Binds K fd ps []
def MethAll (X : Cx) (cl : Cle) (nm : String) (l : List (String × AF)) : Prop := ∀ p ∈ l, MethOk X.prog X.w X.K X.mg X.base X.A cl nm p.1 p.2
theorem ma_nil {nm : String} : MethAll X cl nm [] := fun _ h => by cases h
theorem ma_cons {nm c : String} {m : AF} {l : List (String × AF)} {f : Addr} {fd : FuncData} {k : Nat} {ps : List Str} (h1 : Cls X.K (cl c)) (h2 : Meth X.K (cl c) (Str.ofString nm) f) (h3 : FnOk X.prog X.w X.K X.mg X.base CX0 k f fd ps (spA X.K cl m)) (h4 : Room k X.A) (h5 : Binds X.K fd ps [])
    (h : MethAll X cl nm l) : MethAll X cl nm ((c, m) :: l) := fun p hp => by
  rcases List.mem_cons.mp hp with rfl | hp
  · exact ⟨f, fd, k, ps, h1, h2, h3, h4, h5⟩
  · exact h p hp
theorem ae_meth {l : List (String × AF)} {nm : String} {pl : Sem Bool} (ho : PEa X cl o ea) (hl : MethAll X cl nm l) (ha : PAa X cl (e :: es) ra)
    (hst : starEach (e :: es) X.env = (false, eval e X.env) :: starEach es X.env := by rfl) (hpl : (backTo pos (starEach es X.env)).any (·.1) = false := by rfl)
    (ht : eval (.Call (.Attribute o (Str.ofString nm) apos) (e :: es) [] pos) X.env = (do
      let ov ← eval o X.env
      standAt apos.atName
      let (f, first) ← holding [ov] (getMethod ov (Str.ofString nm) pl)
      callWith pos f first (backTo pos (starEach (e :: es) X.env)) (backToKw pos (keywordEach [] X.env))) := by rfl) :
    PEa X cl (.Call (.Attribute o (Str.ofString nm) apos) (e :: es) [] pos) (eMethL l nm ea ra) := by
  obtain ⟨to, o1, o2⟩ := ho
  obtain ⟨t, a1, a2⟩ := ha
  refine ⟨_, PE.ex (fun i : { p : String × AF // look l p.1 = some p.2 } => ?_), sim_meth (E := E0) o2 a2⟩
  obtain ⟨f, fd, k, ps, h1, h2, h3, h4, h5⟩ := (hl i.1 (look_mem i.2)).ex
  exact pe_meth o1 h1 h2 h3 h4 h5 .nil pass0 a1 hst hpl ht
theorem ae_meth0 {l : List (String × AF)} {nm : String} {pl : Sem Bool} (ho : PEa X cl o ea) (hl : MethAll X cl nm l)
    (ht : eval (.Call (.Attribute o (Str.ofString nm) apos) [] [] pos) X.env = (do
      let ov ← eval o X.env
      standAt apos.atName
      let (f, first) ← holding [ov] (getMethod ov (Str.ofString nm) pl)
      callWith pos f first (backTo pos (starEach [] X.env)) (backToKw pos (keywordEach [] X.env))) := by rfl) :
    PEa X cl (.Call (.Attribute o (Str.ofString nm) apos) [] [] pos) (eMethL l nm ea gNil') := by
  obtain ⟨to, o1, o2⟩ := ho
  refine ⟨_, PE.ex (fun i : { p : String × AF // look l p.1 = some p.2 } => ?_), sim_meth (E := E0) o2 sim_nil⟩
  obtain ⟨f, fd, k, ps, h1, h2, h3, h4, h5⟩ := (hl i.1 (look_mem i.2)).ex
  exact pe_meth0 o1 h1 h2 h3 h4 h5 .nil pass0 ht
/-! tests -/
def qBl (a : AE) : AT := fun σ M => (a σ M).bind fun p => match p.1 with | .bl b => some (b, p.2) | _ => none
theorem sim_test {t : TE} {a : AE} (h : SimE K cl t a) : SimT K cl (tTest t) (qBl a) := by
  intro ρ M H σ c v M' S R h' Q k
  obtain ⟨⟨x, M1⟩, e1, h'⟩ := Option.bind_eq_some_iff.mp h'
  dsimp only at h'
  split at h'
  · cases h'
    exact h S R e1 _ fun ρ1 H1 w S1 m1 r1 => ⟨_, by rw [RV] at r1; exact r1, k _ _ S1 m1⟩
  · cases h'
theorem at_cmp {op : CmpOp} {f : A2} (h : CmpA X cl op f) (ha : PEa X cl a ea) (hb : PEa X cl b eb) (hm : behindInMarks op b = false) : PTa X cl (.Compare a [op] [b] pos) (qBl (eBin f ea eb)) := by
  obtain ⟨r, h1, h2⟩ := h
  obtain ⟨ta, a1, a2⟩ := ha
  obtain ⟨tb, b1, b2⟩ := hb
  exact ⟨_, pt_cmpR h1 a1 b1 hm, sim_test (sim_bin h2 a2 b2)⟩
theorem at_tru (ha : PEa X cl a ea) (he : ∀ whole, isTrue a X.env whole = (do let v ← whole; standAt a.pos; holding [v] (truthy v)) := by intro _; rfl) : PTa X cl a (qTru ea) := by
  obtain ⟨ta, a1, a2⟩ := ha
  exact ⟨_, pt_truth a1 he, sim_tru a2⟩
theorem at_not (ha : PTa X cl a qa) : PTa X cl (.UnaryOp .Not a pos) (qNot qa) := by
  obtain ⟨ta, a1, a2⟩ := ha
  exact ⟨_, pt_not a1, sim_not a2⟩
theorem aw_and1 (ha : PTa X cl a qa) : PWa X cl (.BoolOp .And [a] pos) qa := by
  obtain ⟨ta, a1, a2⟩ := ha
  exact ⟨_, pw_and1 a1, a2⟩
theorem aw_or1 (ha : PTa X cl a qa) : PWa X cl (.BoolOp .Or [a] pos) qa := by
  obtain ⟨ta, a1, a2⟩ := ha
  exact ⟨_, pw_or1 a1, a2⟩
theorem aw_and (ha : PTa X cl a qa) (hb : PWa X cl (.BoolOp .And (b :: es) pos) qb) : PWa X cl (.BoolOp .And (a :: b :: es) pos) (qAnd qa qb) := by
  obtain ⟨ta, a1, a2⟩ := ha
  obtain ⟨tb, b1, b2⟩ := hb
  exact ⟨_, pw_and a1 b1, sim_and a2 b2⟩
theorem aw_or (ha : PTa X cl a qa) (hb : PWa X cl (.BoolOp .Or (b :: es) pos) qb) : PWa X cl (.BoolOp .Or (a :: b :: es) pos) (qOr qa qb) := by
  obtain ⟨ta, a1, a2⟩ := ha
  obtain ⟨tb, b1, b2⟩ := hb
  exact ⟨_, pw_or a1 b1, sim_or a2 b2⟩
theorem at_w (ha : PWa X cl a qa) : PTa X cl a qa := by
  obtain ⟨ta, a1, a2⟩ := ha
  exact ⟨_, a1.pt, a2⟩
/-! what is walked -/
def PIa (X : Cx) (cl : Cle) (tg iter : Expr) (a : AI) : Prop := ∃ t, PI X tg iter t ∧ SimI X.K cl t a
theorem ai_list {tg : Expr} (ha : PEa X cl a ea) : PIa X cl tg a (itList ea) := by
  obtain ⟨ta, a1, a2⟩ := ha
  exact ⟨_, PI.or (pi_list a1) (pi_tup a1), simi_list a2⟩
theorem ai_r1 {tg : Expr} (hg : Gl X "range") (hm : X.mg "range" = none) (ha : PAa X cl [a] ra) (hs : starEach [a] X.env = [(false, eval a X.env)] := by rfl) : PIa X cl tg (.Call (.Name "range" p) [a] [] pos) (itR1 ra) := by
  obtain ⟨ta, a1, a2⟩ := ha
  exact ⟨_, pi_range1 hg hm a1 hs, simi_r1 a2⟩
theorem ai_r2 {tg : Expr} (hg : Gl X "range") (hm : X.mg "range" = none) (ha : PAa X cl [a, b] ra) (hs : starEach [a, b] X.env = [(false, eval a X.env), (false, eval b X.env)] := by rfl) (hs2 : starEach [b] X.env = [(false, eval b X.env)] := by rfl) : PIa X cl tg (.Call (.Name "range" p) [a, b] [] pos) (itR2 ra) := by
  obtain ⟨ta, a1, a2⟩ := ha
  exact ⟨_, pi_range2 hg hm a1 hs hs2, simi_r2 a2⟩
def PGa (X : Cx) (cl : Cle) (tg : Expr) (a : AG) : Prop := ∃ t, PG X tg t ∧ SimG X.K cl t a
theorem ag_name (i : Nat) {x : Str} (hN : X.N.Nodup) (hi : X.N[i]? = some x := by rfl) (hx : Loc X.env.scope x := by first | exact Or.inl rfl | exact Or.inr rfl) (hf : X.fn x = true ∨ X.env.scope.names.lookup x = some .local := by first | exact .inl rfl | exact .inr rfl | assumption) : PGa X cl (.Name x pos) (aName i) := ⟨_, pg_name hN hi hx hf, sim_name⟩
/-! methods of lists -/
def MtA (X : Cx) (cl : Cle) (id : String) (f : AM) : Prop := ∃ r, MtR X id r ∧ SimM X.K cl r f
/-! statements -/
theorem as_nil : PSsa X cl [] sNext := ⟨_, pss_nil, sim_next⟩
theorem as_cons (h : PSa X cl st sa) (hr : PSsa X cl sts sb) : PSsa X cl (st :: sts) (sSeq sa sb) := by
  obtain ⟨t, a1, a2⟩ := h
  obtain ⟨u, b1, b2⟩ := hr
  exact ⟨_, pss_cons a1 b1, sim_seq a2 b2⟩
theorem as_one (h : PSa X cl st sa) : PSsa X cl [st] sa := by
  obtain ⟨t, a1, a2⟩ := h
  exact ⟨_, pss_one a1, a2⟩
theorem as_never : PSa X cl st sNever := ⟨_, ps_never, sim_never⟩
theorem as_ret (h : PEa X cl e ea) : PSa X cl (.Return (some e) pos) (sRet ea) := by
  obtain ⟨t, a1, a2⟩ := h
  exact ⟨_, ps_ret a1, sim_ret a2⟩
theorem as_expr (h : PEa X cl e ea) (hs : swapsWith e none pos.line X.env = pure false := by rfl) : PSa X cl (.Expr e pos) (sExpr ea) := by
  obtain ⟨t, a1, a2⟩ := h
  exact ⟨_, ps_expr a1 hs, sim_expr a2⟩
theorem as_set (i : Nat) {x : Str} (hN : X.N.Nodup) (h : PEa X cl e ea) (hi : X.N[i]? = some x := by rfl) (hx : Loc X.env.scope x := by first | exact Or.inl rfl | exact Or.inr rfl) (hs : swapsWith e (some (.Name x pos')) pos.line X.env = pure false := by rfl) (hf : X.fn x = true ∨ X.env.scope.names.lookup x = some .local := by first | exact .inl rfl | exact .inr rfl | assumption) :
    PSa X cl (.Assign [.Name x pos'] e pos) (sAsg ea (aName i)) := by
  obtain ⟨t, a1, a2⟩ := h
  exact ⟨_, ps_set hN hi hx a1 hs hf, sim_asg a2 sim_name⟩
theorem as_fld {cs : List String} {f : String} (F : FldOk X.K cl cs f) (ho : PEa X cl o eb) (h : PEa X cl e ea) (hs : swapsWith e (some (.Attribute o (Str.ofString f) pos')) pos.line X.env = pure false := by rfl) : PSa X cl (.Assign [.Attribute o (Str.ofString f) pos'] e pos) (sFldSet cs f eb ea) := by
  obtain ⟨t, a1, a2⟩ := h
  obtain ⟨u, b1, b2⟩ := ho
  exact ⟨_, ps_fld b1 a1 hs, sim_fldSet F b2 a2⟩
def InA (X : Cx) (cl : Cle) (op : Operator) (f : A2) : Prop := ∃ r, InOp X op r ∧ Sim2 X.K cl r f
theorem in_addI : InA X cl .Add oAddI := ⟨_, in_add, sim_addI⟩
theorem in_subI : InA X cl .Sub oSub := ⟨_, in_sub, sim_sub⟩
theorem as_fldAug {cs : List String} {f : String} {op : Operator} {g : A2} (F : FldOk X.K cl cs f) (hop : InA X cl op g) (ho : PEa X cl o eb) (h : PEa X cl e ea) : PSa X cl (.AugAssign (.Attribute o (Str.ofString f) pos') op e pos) (sFldAug' cs f g eb ea) := by
  obtain ⟨r, o1, o2⟩ := hop
  obtain ⟨t, a1, a2⟩ := h
  obtain ⟨u, b1, b2⟩ := ho
  exact ⟨_, ps_fldaug b1 a1 o1, sim_fldAug F b2 a2 o2⟩
theorem as_if (hc : PTa X cl c qc) (ha : PSsa X cl sts sa) (hb : PSsa X cl sts' sb) : PSa X cl (.If c sts sts' pos) (sIf qc sa sb) := by
  obtain ⟨tq, q1, q2⟩ := hc
  obtain ⟨ta, a1, a2⟩ := ha
  obtain ⟨tb, b1, b2⟩ := hb
  exact ⟨_, ps_if q1 a1 b1, sim_ifs q2 a2 b2⟩
theorem as_sub (hu : X.A.units + 1 < cLine) (ho : PEa X cl o eb) (hi : PEa X cl b ec) (h : PEa X cl e ea)
    (hg : ∀ v, assign (.Subscript o b pos') X.env v = (do
      let ov ← holding [v] (eval o X.env)
      let iv ← holding [v, ov] (eval b X.env)
      standAt pos'
      holding [v, ov, iv] (setItem ov iv v)
      release [v, ov, iv] []) := by intro _; rfl)
    (hs1 : swapsWithSole [.Subscript o b pos'] e pos.line X.env = pure false := by rfl) (hw : swappedStores [.Subscript o b pos'] e X.env = pure none := by rfl)
    (h1 : (assignEach [.Subscript o b pos'] X.env).map (·.2) = [assign (.Subscript o b pos') X.env] := by rfl)
    (hs : swapsWith e (some (.Subscript o b pos')) pos.line X.env = pure false := by rfl) (hP : cl.P = X.prog := by rfl) (hW : cl.w = X.w := by rfl) : PSa X cl (.Assign [.Subscript o b pos'] e pos) (sSub eb ec ea) := by
  obtain ⟨t, a1, a2⟩ := h
  obtain ⟨u, b1, b2⟩ := ho
  obtain ⟨v, c1, c2⟩ := hi
  exact ⟨_, PS.or (ps_asg a1 (pg_sub b1 c1 set_list hg) hs1 hw h1) (PS.or (ps_dput hu b1 c1 a1 hs) (ps_xput hu b1 c1 a1 hs)), sim_subset hP hW b2 c2 a2⟩
theorem as_for {tg iter : Expr} {body : List Stmt} {it : AI} {ag : AG} (hp : PassesOwn (model X.prog X.w) X.A X.env X.xe) (hc : X.calm = true) (hi : PIa X cl tg iter it) (hg : PGa X cl tg ag) (hb : PSsa X cl body sb)
    (hs : ∀ x, foldedSetIterable iter X.env x = pure x := by intro _; rfl) : PSa X cl (.For tg iter body [] pos) (sFor it ag sb) := by
  obtain ⟨t, a1, a2⟩ := hi
  obtain ⟨u, b1, b2⟩ := hg
  obtain ⟨v, c1, c2⟩ := hb
  exact ⟨_, ps_for hp hc a1 b1 c1 hs, sim_for a2 b2 c2⟩
/-- the one reading that goes with an abstract word, whatever the context -/
def canE (K : PySem.W.Frag) (cl : Cle) (a : AE) : TE := fun c H Q => ∃ ρ M σ v M', Sm K cl ρ M H ∧ RS K ρ H σ c ∧ a σ M = some (v, M') ∧ ∀ ρ' H' w, Sm K cl ρ' M' H' → Mo ρ H ρ' H' → RV K ρ' H' v w → Q w H'
def canT (K : PySem.W.Frag) (cl : Cle) (a : AT) : TT := fun c H Q => ∃ ρ M σ v M', Sm K cl ρ M H ∧ RS K ρ H σ c ∧ a σ M = some (v, M') ∧ ∀ ρ' H', Sm K cl ρ' M' H' → Mo ρ H ρ' H' → Q v H'
theorem sim_canE {a : AE} : SimE K cl (canE K cl a) a := fun ρ M H σ c v M' S R h Q k => ⟨ρ, M, σ, v, M', S, R, h, k⟩
theorem sim_canT {a : AT} : SimT K cl (canT K cl a) a := fun ρ M H σ c v M' S R h Q k => ⟨ρ, M, σ, v, M', S, R, h, k⟩
theorem PEa.can (h : PEa X cl e ea) : PE X e (canE X.K cl ea) := by
  obtain ⟨t, h1, h2⟩ := h
  exact ⟨fun pins s σ H Q I ⟨ρ, M, σ', v, M', S, R, e, k⟩ => h1.run pins s σ H Q I (h2 S R e Q k)⟩
def PTsa (X : Cx) (cl : Cle) (ifs : List Expr) (a : AT) : Prop := ∃ t, PTs X ifs t ∧ SimT X.K cl t a
theorem PTsa.can {ifs : List Expr} (h : PTsa X cl ifs qa) : PTs X ifs (canT X.K cl qa) := by
  obtain ⟨t, h1, h2⟩ := h
  exact ⟨fun pins s σ H Q I ⟨ρ, M, σ', v, M', S, R, e, k⟩ => h1.run pins s σ H Q I (h2 S R e Q k)⟩
theorem aq_nil : PTsa X cl [] qYes := ⟨_, pts_nil, sim_yes⟩
theorem aq_one (h : PTa X cl c qc) : PTsa X cl [c] qc := by
  obtain ⟨t, a1, a2⟩ := h
  exact ⟨_, pts_one a1, a2⟩
/-- [e for x in it if ..], the comprehension's x in slot i -/
theorem ae_lc (i : Nat) {x : Str} {elt iter : Expr} {ifs : List Expr} {scope : Scope} {it : AI} (hc : X.calm = true) (hN : X.N.Nodup) (hi : PIa X cl (.Name x p) iter it) (ok : BlkOk X.N X.env.scope scope [(x, i)])
    (hg : ∀ (s : Shared) (H : Hp) (C : Addr) (cl : List (Str × Addr)) (fp : List Addr), PG (X.blk s H scope (compEnvC scope cl C X.env) fp) (.Name x p) (gName i))
    (ht : ∀ (s : Shared) (H : Hp) (C : Addr) (cl' : List (Str × Addr)) (fp : List Addr), PTsa (X.blk s H scope (compEnvC scope cl' C X.env) fp) cl ifs qa)
    (he : ∀ (s : Shared) (H : Hp) (C : Addr) (cl' : List (Str × Addr)) (fp : List Addr), PEa (X.blk s H scope (compEnvC scope cl' C X.env) fp) cl elt ea) (hs : ∀ x, foldedSetIterable iter X.env x = pure x := by intro _; rfl) :
    PEa X cl (.ListComp elt [⟨.Name x p, iter, ifs, 0⟩] scope pos) (eLc it i qa ea) := by
  obtain ⟨t, a1, a2⟩ := hi
  exact ⟨_, pe_lc hc hN a1 ok hg (fun s H C cl' fp => (ht s H C cl' fp).can) (fun s H C cl' fp => (he s H C cl' fp).can) hs, sim_lc a2 sim_canT sim_canE⟩
theorem as_setLc (j : Nat) {y : Str} {py spos : Pos} (i : Nat) {x : Str} {elt iter : Expr} {ifs : List Expr} {scope : Scope} {it : AI} (hc : X.calm = true) (hN : X.N.Nodup)
    (hsw : swapsWith (.ListComp elt [⟨.Name x p, iter, ifs, 0⟩] scope pos) (some (.Name y py)) spos.line X.env = pure true) (hi : PIa X cl (.Name x p) iter it) (ok : BlkOk X.N X.env.scope scope [(x, i)])
    (hg : ∀ (s : Shared) (H : Hp) (C : Addr) (cl : List (Str × Addr)) (fp : List Addr), PG (X.blk s H scope (compEnvC scope cl C X.env) fp) (.Name x p) (gName i))
    (ht : ∀ (s : Shared) (H : Hp) (C : Addr) (cl' : List (Str × Addr)) (fp : List Addr), PTsa (X.blk s H scope (compEnvC scope cl' C X.env) fp) cl ifs qa)
    (he : ∀ (s : Shared) (H : Hp) (C : Addr) (cl' : List (Str × Addr)) (fp : List Addr), PEa (X.blk s H scope (compEnvC scope cl' C X.env) fp) cl elt ea)
    (hy : X.N[j]? = some y := by rfl) (hyl : X.env.scope.names.lookup y = some .local := by rfl) (hs : ∀ x, foldedSetIterable iter X.env x = pure x := by intro _; rfl) :
    PSa X cl (.Assign [.Name y py] (.ListComp elt [⟨.Name x p, iter, ifs, 0⟩] scope pos) spos) (sAsg (eLc it i qa ea) (aName j)) := by
  obtain ⟨t, a1, a2⟩ := hi
  exact ⟨_, ps_setLc hc hN hy hyl hsw a1 ok hg (fun s H C cl' fp => (ht s H C cl' fp).can) (fun s H C cl' fp => (he s H C cl' fp).can) hs, sim_asg (sim_lc a2 sim_canT sim_canE) sim_name⟩
theorem ae_sl {hpos : Pos} {lo hi : Option Expr} {l u : AO'} (ha : PEa X cl e ea) (hl : ∃ t, PO X lo t ∧ SimO X.K cl t l) (hu : ∃ t, PO X hi t ∧ SimO X.K cl t u) (hsl : ∀ te tl tu, PE X e te → PO X lo tl → PO X hi tu → PE X (.Subscript e (.Slice lo hi none hpos) pos) (tSl (rSlL X.K) te tl tu)) :
    PEa X cl (.Subscript e (.Slice lo hi none hpos) pos) (eSl ea l u) := by
  obtain ⟨t, a1, a2⟩ := ha
  obtain ⟨tl, l1, l2⟩ := hl
  obtain ⟨tu, u1, u2⟩ := hu
  exact ⟨_, hsl _ _ _ a1 l1 u1, sim_sl a2 l2 u2⟩
theorem ao_none : ∃ t, PO X none t ∧ SimO X.K cl t pNone := ⟨_, po_none, simo_none⟩
theorem ao_some (ha : PEa X cl e ea) : ∃ t, PO X (some e) t ∧ SimO X.K cl t (pPart ea) := by
  obtain ⟨t, a1, a2⟩ := ha
  exact ⟨_, po_some a1, simo_some a2⟩
/-! append, pop -/
theorem ae_append (ha : PEa X cl o ea) (hb : PAa X cl (e :: es) ra)
    (h : ∀ to t, PE X o to → PA X (e :: es) t → PE X (.Call (.Attribute o (Str.ofString "append") apos) (e :: es) [] cpos) (tBM X.K "list" rAppend to t)) : PEa X cl (.Call (.Attribute o (Str.ofString "append") apos) (e :: es) [] cpos) (eLM mAppend ea ra) := by
  obtain ⟨t, a1, a2⟩ := ha
  obtain ⟨u, b1, b2⟩ := hb
  exact ⟨_, h _ _ a1 b1, sim_lm simm_append a2 b2⟩
theorem ae_pop0 (ha : PEa X cl o ea)
    (h : ∀ to, PE X o to → PE X (.Call (.Attribute o (Str.ofString "pop") apos) [] [] cpos) (tBM0 X.K "list" rPop to)) : PEa X cl (.Call (.Attribute o (Str.ofString "pop") apos) [] [] cpos) (eLM mPop0 ea gNil') := by
  obtain ⟨t, a1, a2⟩ := ha
  exact ⟨_, h _ a1, sim_lm0 simm_pop0 a2⟩
theorem ae_pop1 (ha : PEa X cl o ea) (hb : PAa X cl (e :: es) ra)
    (h : ∀ to t, PE X o to → PA X (e :: es) t → PE X (.Call (.Attribute o (Str.ofString "pop") apos) (e :: es) [] cpos) (tBM X.K "list" rPopAt to t)) : PEa X cl (.Call (.Attribute o (Str.ofString "pop") apos) (e :: es) [] cpos) (eLM mPop1 ea ra) := by
  obtain ⟨t, a1, a2⟩ := ha
  obtain ⟨u, b1, b2⟩ := hb
  exact ⟨_, h _ _ a1 b1, sim_lm simm_pop1 a2 b2⟩
end
/-! ### a def -/
section
variable {P : Program} {w : World} {K : PySem.W.Frag} {mg : Str → Option Value} {base : Heap} {cl : Cle}
theorem fn_ok {x qual : Str} {st : Stmt} {f : Addr} {fd : FuncData} {N ps : List Str} {k : Nat} {a : AS} (F : Fun K x qual st f fd) (S : FnScope N ps (defScope st))
    (hb : ∀ (cdv : Value) (A : Around) (outer : List Env) (s : Shared) (H : Hp) (E : XK), Room k (A.deeper (envOfC qual (defScope st) s.heap.objs.size f cdv)) → PSsa (cxOf CX0 P w K mg base N qual (defScope st) f cdv A outer s H E).nox cl (defBody st) a) :
    FnOk P w K mg base CX0 (k + 1) f fd ps (spA K cl (callA a N.length ps.length)) := by
  refine F.ok S (fun vs H Q E h => ?_) (fun cdv A outer s H vs Q E hr h => ?_)
  · obtain ⟨ρ, M, avs, v, M', _, r, e, _⟩ := h
    unfold callA at e
    split at e
    · rw [r.length]; assumption
    · cases e
  · obtain ⟨ρ, M, avs, v, M', Sm0, r, e, kk⟩ := h
    obtain ⟨t, h1, h2⟩ := hb cdv A outer s H E hr
    refine ⟨t, h1, ?_⟩
    unfold callA at e
    split at e
    case isFalse => cases e
    rename_i hl
    obtain ⟨⟨f1, σ1, M1⟩, e1, e⟩ := Option.bind_eq_some_iff.mp e
    have R : RS K ρ H (avs.map some ++ List.replicate (N.length - ps.length) none) (L2.start N vs) := by
      unfold L2.start
      rw [r.length, hl]
      exact (RS.of_vals r).app (RS.nones _)
    refine h2 Sm0 R e1 _ fun ρ2 H2 c2 S2 m2 R2 => ?_
    cases f1 with
    | nx => cases e; exact kk _ _ _ S2 m2 rv_non
    | rt v1 => cases e; exact fun w rw => kk _ _ _ S2 m2 rw
    | bk => cases e
    | ct => cases e
end
end Sy
/-! ### the law -/
namespace Sy
open PySem L2
theorem Sm.empty {K : PySem.W.Frag} {cl : Cle} {H : Hp} (h : ∀ P, cl.tb = some P → GxR.TabG H P := by intro P e; cases e) : Sm K cl (fun _ => none) ⟨fun _ => none, 0⟩ H where
  tab := h
  inj := by intro n m a e; cases e
  dom := by intro n a e; cases e
  obj := by intro n o e; cases e
  rng := by intro n a e; cases e
def spLaw (K : PySem.W.Frag) : Sp := fun vs H Q _ => ∃ (a : Addr) (ns : List Int), vs = [.ref a] ∧ PSq K H a (ns.map V.int) ∧ ns.length ≤ 63 ∧ ∀ H', Q (.bl true) H'
theorem spLaw_of {K : PySem.W.Frag} {H : Hp} {a : Addr} {ns : List Int} {E : XK} (hl : ns.length ≤ 63) (hO : Only H) (hS : SqL K H a (ns.map V.int)) : spLaw K [.ref a] H (fun v _ => v = .bl true) E := by
  refine ⟨a, ns, rfl, ?_, hl, fun _ => rfl⟩
  rcases hS with (h | ⟨o, h⟩) | h
  · rcases hO a with z | ⟨o, xs, z⟩
    · rw [h] at z; cases z
    · rw [h] at z; cases z
  · exact .inl ⟨o, h⟩
  · exact .inr (.inr h)
theorem law_ok {P : Program} {w : World} {K : PySem.W.Frag} {mg : Str → Option Value} {base : Heap} {cl : Cle} {k : Nat} {f : Addr} {fd : FuncData} {ps : List Str} {m : AF}
    (h : ∀ ns : List Int, ns.length ≤ 63 → ∃ M', m [.ro (ns.map .int)] ⟨fun _ => none, 0⟩ = some (.bl true, M')) (F : FnOk P w K mg base CX0 k f fd ps (spA K cl m)) (ht : cl.tb = none := by rfl) : FnOk P w K mg base CX0 k f fd ps (spLaw K) := by
  have g : ∀ vs H Q E, spLaw K vs H Q E → spA K cl m vs H Q E := by
    rintro vs H Q E ⟨a, ns, rfl, hp, hl, q⟩
    obtain ⟨M', e⟩ := h ns hl
    refine ⟨fun _ => none, _, _, _, M', Sm.empty fun P e => (by rw [ht] at e; cases e), RVs.cons ?_ RVs.nil, e, fun ρ' H' w _ _ r => ?_⟩
    · rw [RV]; exact ⟨a, _, rfl, hp, RVs.of_ints ns⟩
    · rw [RV] at r; subst r; exact q H'
  exact F.imp g
end Sy
/-! The abstract words run: a calculus of what follows, lazily. -/
namespace Sy
open PySem L2
/-- a mark that depends on what follows: what it marks is left as it is while the head is reckoned -/
inductive Tag {α : Sort u} (Q : α) : Type where
  | mk
/-- o gives something, of which Q -/
def wpO {α : Type} (o : Option α) (Q : α → Prop) (t : Tag Q := .mk) : Prop := ∃ a, o = some a ∧ Q a
theorem wpO_congr {α : Type} {o o' : Option α} {Q Q' : α → Prop} (h : o = o') (hq : Q = Q') : wpO o Q = wpO o' Q' := by
  subst h
  subst hq
  rfl
section
variable {α β : Type} {Q : α → Prop}
theorem w_some {a : α} : wpO (some a) Q = Q a := propext ⟨fun ⟨_, e, q⟩ => by cases e; exact q, fun q => ⟨a, rfl, q⟩⟩
theorem w_none : wpO (none : Option α) Q = False := propext ⟨fun ⟨_, e, _⟩ => (nomatch e), fun h => h.elim⟩
theorem w_bind {o : Option β} {f : β → Option α} : wpO (o.bind f) Q = wpO o fun b => wpO (f b) Q := propext ⟨fun ⟨a, e, q⟩ => by
    obtain ⟨b, e1, e2⟩ := Option.bind_eq_some_iff.mp e
    exact ⟨b, e1, a, e2, q⟩, fun ⟨b, e1, a, e2, q⟩ => ⟨a, by rw [e1]; exact e2, q⟩⟩
theorem w_map {o : Option β} {f : β → α} : wpO (o.map f) Q = wpO o fun b => Q (f b) := propext ⟨fun ⟨a, e, q⟩ => by
    obtain ⟨b, e1, e2⟩ := Option.map_eq_some_iff.mp e
    exact ⟨b, e1, by show Q (f b); rw [e2]; exact q⟩, fun ⟨b, e1, q⟩ => ⟨f b, by rw [e1]; rfl, q⟩⟩
theorem w_ite {c : Prop} [Decidable c] {a b : Option α} : wpO (if c then a else b) Q = if c then wpO a Q else wpO b Q := by split <;> rfl
theorem w_if {c : Prop} [Decidable c] {a : Option α} : wpO (if c then a else none) Q = (c ∧ wpO a Q) := by
  split
  · rename_i h
    exact propext ⟨fun q => ⟨h, q⟩, fun q => q.2⟩
  · rename_i h
    rw [w_none]
    exact propext ⟨fun q => q.elim, fun q => absurd q.1 h⟩
theorem wpO.mono {o : Option α} {Q' : α → Prop} (h : wpO o Q) (k : ∀ a, Q a → Q' a) : wpO o Q' := by
  obtain ⟨a, e, q⟩ := h
  exact ⟨a, e, k a q⟩
end
/-! the same without the mark, to reckon under binders -/
def wq {α : Type} (o : Option α) (Q : α → Prop) : Prop := ∃ a, o = some a ∧ Q a
theorem wpO_wq {α : Type} {o : Option α} {Q : α → Prop} : wpO o Q = wq o Q := rfl
def bq (b : Bool) (A B : Prop) : Prop := (b = true → A) ∧ (b = false → B)
section
variable {α β : Type} {Q : α → Prop}
theorem q_some {a : α} : wq (some a) Q = Q a := w_some
theorem q_none : wq (none : Option α) Q = False := w_none
theorem q_bind {o : Option β} {f : β → Option α} : wq (o.bind f) Q = wq o fun b => wq (f b) Q := w_bind
theorem q_map {o : Option β} {f : β → α} : wq (o.map f) Q = wq o fun b => Q (f b) := w_map
theorem q_if {c : Prop} [Decidable c] {a : Option α} : wq (if c then a else none) Q = (c ∧ wq a Q) := w_if
theorem q_br {b : Bool} {o u : Option α} : wq (if b = true then o else u) Q = bq b (wq o Q) (wq u Q) := by
  cases b
  · rw [if_neg (by simp)]; exact propext ⟨fun h => ⟨(fun z => by cases z), fun _ => h⟩, fun h => h.2 rfl⟩
  · rw [if_pos rfl]; exact propext ⟨fun h => ⟨fun _ => h, (fun z => by cases z)⟩, fun h => h.1 rfl⟩
end
def slot (σ : ASt) (i : Nat) : Option AV := match σ[i]? with | some (some v) => some v | _ => none
theorem slot_0 {v : AV} {σ : ASt} : slot (some v :: σ) 0 = some v := rfl
theorem slot_s {x : Option AV} {σ : ASt} {n : Nat} : slot (x :: σ) (n + 1) = slot σ n := rfl
def lstO : Option AO → Option (List AV)
  | some (.lst xs) => some xs
  | _ => none
def insO : Option AO → Option (String × List (String × AV))
  | some (.ins c fs) => some (c, fs)
  | _ => none
theorem lst_get {M : AH} {n : Nat} : M.lst n = lstO (M.get n) := rfl
theorem ins_get {M : AH} {n : Nat} : M.ins n = insO (M.get n) := rfl
theorem lstO_lst {xs : List AV} : lstO (some (.lst xs)) = some xs := rfl
theorem insO_ins {c : String} {fs : List (String × AV)} : insO (some (.ins c fs)) = some (c, fs) := rfl
/-- one of two, by two numbers -/
def sel {α : Type} (m n : Nat) (a b : α) : α := if m = n then a else b
theorem sel_self {α : Type} {n : Nat} {a b : α} : sel n n a b = a := if_pos rfl
theorem sel_ne {α : Type} {m n : Nat} {a b : α} (h : m ≠ n) : sel m n a b = b := if_neg h
theorem sel_lt {α : Type} {m n : Nat} {a b : α} (h : m < n) : sel m n a b = b := if_neg (by omega)
theorem sel_gt {α : Type} {m n : Nat} {a b : α} (h : n < m) : sel m n a b = b := if_neg (by omega)
theorem sel10 {α : Type} {n : Nat} {a b : α} : sel (n + 1) n a b = b := sel_gt (by omega)
theorem sel01 {α : Type} {n : Nat} {a b : α} : sel n (n + 1) a b = b := sel_lt (by omega)
theorem sel20 {α : Type} {n : Nat} {a b : α} : sel (n + 1 + 1) n a b = b := sel_gt (by omega)
theorem sel02 {α : Type} {n : Nat} {a b : α} : sel n (n + 1 + 1) a b = b := sel_lt (by omega)
theorem sel30 {α : Type} {n : Nat} {a b : α} : sel (n + 1 + 1 + 1) n a b = b := sel_gt (by omega)
theorem sel03 {α : Type} {n : Nat} {a b : α} : sel n (n + 1 + 1 + 1) a b = b := sel_lt (by omega)
theorem sel40 {α : Type} {n : Nat} {a b : α} : sel (n + 1 + 1 + 1 + 1) n a b = b := sel_gt (by omega)
theorem sel04 {α : Type} {n : Nat} {a b : α} : sel n (n + 1 + 1 + 1 + 1) a b = b := sel_lt (by omega)
theorem sel50 {α : Type} {n : Nat} {a b : α} : sel (n + 1 + 1 + 1 + 1 + 1) n a b = b := sel_gt (by omega)
theorem sel05 {α : Type} {n : Nat} {a b : α} : sel n (n + 1 + 1 + 1 + 1 + 1) a b = b := sel_lt (by omega)
theorem get_set {M : AH} {n m : Nat} {o : AO} : (M.set n o).get m = sel m n (some o) (M.get m) := rfl
theorem get_new {M : AH} {m : Nat} {o : AO} : (M.new o).get m = sel m M.next (some o) (M.get m) := rfl
/-- two ways, by a truth -/
def br (b : Bool) (A B : Prop) (t : Tag A := .mk) (u : Tag B := .mk) : Prop := (b = true → A) ∧ (b = false → B)
theorem br_bq {b : Bool} {A B : Prop} : br b A B = bq b A B := rfl
theorem br_true {A B : Prop} : br true A B = A := propext ⟨fun h => h.1 rfl, fun h => ⟨fun _ => h, fun z => by cases z⟩⟩
theorem br_false {A B : Prop} : br false A B = B := propext ⟨fun h => h.2 rfl, fun h => ⟨(fun z => by cases z), fun _ => h⟩⟩
theorem br_dec {c : Prop} [Decidable c] {A B : Prop} (h1 : c → A) (h2 : ¬ c → B) : br (decide c) A B := ⟨fun h => h1 (of_decide_eq_true h), fun h => h2 (of_decide_eq_false h)⟩
theorem br_ndec {c : Prop} [Decidable c] {A B : Prop} (h1 : ¬ c → A) (h2 : c → B) : br (!decide c) A B := ⟨fun h => h1 (by simpa using h), fun h => h2 (by simpa using h)⟩
theorem br_if {α : Type} {b : Bool} {o u : Option α} {Q : α → Prop} : wpO (if b = true then o else u) Q = br b (wpO o Q) (wpO u Q) := by
  cases b
  · rw [br_false, if_neg (by simp)]
  · rw [br_true, if_pos rfl]
theorem next_set {M : AH} {n : Nat} {o : AO} : (M.set n o).next = M.next := rfl
theorem next_new {M : AH} {o : AO} : (M.new o).next = M.next + 1 := rfl
theorem AH.ext' {M N : AH} (h : ∀ n, M.get n = N.get n) (h2 : M.next = N.next) : M = N := by
  cases M; cases N
  have : ∀ n, _ := h
  simp only at this h2
  rw [funext this, h2]
theorem set_set {M : AH} {n : Nat} {o u : AO} : (M.set n o).set n u = M.set n u := AH.ext' (fun m => by simp only [get_set, sel]; split <;> rfl) rfl
theorem set_comm {M : AH} {n m : Nat} {o u : AO} (h : n ≠ m) : (M.set n o).set m u = (M.set m u).set n o := AH.ext' (fun k => by
  simp only [get_set, sel]
  by_cases e : k = n
  · subst e; rw [if_neg h, if_pos rfl, if_pos rfl]
  · rw [if_neg e, if_neg e]) rfl
theorem new_set {M : AH} {o u : AO} : (M.new o).set M.next u = M.new u := AH.ext' (fun m => by simp only [get_set, get_new, sel]; split <;> rfl) rfl
section
variable {σ : ASt} {M : AH} {Q : AV × AH → Prop} {QA : List AV × AH → Prop} {QT : Bool × AH → Prop} {QS : Fl × ASt × AH → Prop} {a b c : AE} {f : A2} {r : AA} {t u : AT} {s s' : AS} {α : Type}
theorem w_var {i : Nat} : wpO (eVar i σ M) Q = wpO (slot σ i) fun v => Q (v, M) := by
  unfold eVar slot
  cases σ[i]? with
  | none => show wpO none Q = wpO none _; rw [w_none, w_none]
  | some o =>
    cases o with
    | none => show wpO none Q = wpO none _; rw [w_none, w_none]
    | some v => show wpO (some _) Q = wpO (some _) _; rw [w_some, w_some]
theorem w_c {v : AV} : wpO (eC v σ M) Q = Q (v, M) := w_some
theorem w_bin : wpO (eBin f a b σ M) Q = wpO (a σ M) fun p => wpO (b σ p.2) fun q => wpO (f p.1 q.1 q.2) Q := by
  unfold eBin
  rw [w_bind]
  simp only [wpO_wq, q_bind]
theorem w_gnil : wpO (gNil' σ M) QA = QA ([], M) := w_some
theorem w_gcons : wpO (gCons' a r σ M) QA = wpO (a σ M) fun p => wpO (r σ p.2) fun q => QA (p.1 :: q.1, q.2) := by
  unfold gCons'
  rw [w_bind]
  simp only [wpO_wq, q_bind, q_some]
theorem w_args {g : AF} : wpO (eArgs g r σ M) Q = wpO (r σ M) fun p => wpO (g p.1 p.2) Q := by
  unfold eArgs
  rw [w_bind]
theorem w_eif : wpO (eIf t a b σ M) Q = wpO (t σ M) fun p => br p.1 (wpO (a σ p.2) Q) (wpO (b σ p.2) Q) := by
  unfold eIf
  rw [w_bind]
  simp only [wpO_wq, q_br, br_bq]
def fldOf (M : AH) (v : AV) (f : String) : Option AV := match v with
  | .ref n => (insO (M.get n)).bind fun p => look p.2 f
  | _ => none
theorem w_fld {f : String} : wpO (eFld f a σ M) Q = wpO (a σ M) fun p => wpO (fldOf p.2 p.1 f) fun v => Q (v, p.2) := by
  unfold eFld eUn
  rw [w_bind]
  refine wpO_congr rfl (funext fun p => ?_)
  obtain ⟨v, N⟩ := p
  cases v with
  | ref n =>
    show wpO (match N.ins n with | some (_, fs) => (look fs f).map fun x => (x, N) | none => none) Q = wpO ((insO (N.get n)).bind fun p => look p.2 f) _
    rw [ins_get]
    cases insO (N.get n) with
    | none => rw [Option.bind_none, w_none, w_none]
    | some p => rw [Option.bind_some]; exact w_map
  | _ => show wpO none Q = wpO none _; rw [w_none, w_none]
def methOf (l : List (String × AF)) (nm : String) (v : AV) (M : AH) : Option AF := match v with
  | .ref n => (insO (M.get n)).bind fun p => match look p.2 nm with | none => look l p.1 | some _ => none
  | _ => none
theorem w_meth {l : List (String × AF)} {nm : String} : wpO (eMethL l nm a r σ M) Q = wpO (a σ M) fun p => wpO (methOf l nm p.1 p.2) fun m => wpO (r σ p.2) fun q => wpO (m (p.1 :: q.1) q.2) Q := by
  unfold eMethL eMeth
  rw [w_bind]
  refine wpO_congr rfl (funext fun p => ?_)
  obtain ⟨v, N⟩ := p
  cases v with
  | ref n =>
    show wpO (match N.ins n with | some (c, fs) => (match look l c, look fs nm with | some m, none => (r σ N).bind fun q => m (.ref n :: q.1) q.2 | _, _ => none) | none => none) Q = wpO ((insO (N.get n)).bind fun p => match look p.2 nm with | none => look l p.1 | some _ => none) _
    rw [ins_get]
    cases insO (N.get n) with
    | none => rw [Option.bind_none, w_none, w_none]
    | some p =>
      rw [Option.bind_some]
      obtain ⟨c, fs⟩ := p
      dsimp only
      cases look fs nm with
      | none =>
        cases look l c with
        | none => rw [w_none, w_none]
        | some m => rw [w_some]; dsimp only; rw [w_bind]
      | some x =>
        cases look l c with
        | none => rw [w_none, w_none]
        | some m => rw [w_none, w_none]
  | _ => show wpO none Q = wpO none _; rw [w_none, w_none]
theorem w_make {cn : String} {m : AF} : wpO (eMake cn m r σ M) Q = wpO (r σ M) fun p => wpO (m (.ref p.2.next :: p.1) (p.2.new (.ins cn []))) fun q => q.1 = .non ∧ Q (.ref p.2.next, q.2) := by
  unfold eMake
  rw [w_bind]
  refine wpO_congr rfl (funext fun p => ?_)
  rw [w_bind]
  refine wpO_congr rfl (funext fun q => ?_)
  rw [w_if, w_some]
theorem w_dnewT : wpO (eDNewT σ M) Q = Q (.ref M.next, M.new (.dT [])) := w_some
theorem w_dnewK : wpO (eDNewK σ M) Q = Q (.ref M.next, M.new (.dK [])) := w_some
theorem w_get2 : wpO (eGet2 a b c σ M) Q = wpO (a σ M) fun p => wpO (kindD p.1 p.2) fun kb => wpO (b σ p.2) fun q => wpO (c σ q.2) fun r => wpO (dGetB kb r.2 p.1 q.1) fun o => Q (o.getD r.1, r.2) := by
  unfold eGet2
  simp only [wpO_wq, q_bind, q_some]
theorem w_get1 : wpO (eGet1 a b σ M) Q = wpO (a σ M) fun p => wpO (kindD p.1 p.2) fun kb => wpO (b σ p.2) fun q => wpO (dGetB kb q.2 p.1 q.1) fun o => Q (o.getD .non, q.2) := by
  unfold eGet1
  simp only [wpO_wq, q_bind, q_some]
def kindO (o : Option AO) : Option Bool := match dkO o with
  | some _ => some true
  | none => (dtO o).map fun _ => false
theorem kindD_ref {n : Nat} : kindD (.ref n) M = kindO (M.get n) := rfl
theorem kindO_dT {kvs : List (List AK × AV)} : kindO (some (.dT kvs)) = some false := rfl
theorem kindO_lT {kvs : List (List AK × AV)} : kindO (some (.lT kvs)) = some false := rfl
theorem kindO_dK {kvs : List (AK × AV)} : kindO (some (.dK kvs)) = some true := rfl
theorem kindO_lK {kvs : List (AK × AV)} : kindO (some (.lK kvs)) = some true := rfl
theorem dkO_dK {kvs : List (AK × AV)} : dkO (some (.dK kvs)) = some kvs := rfl
theorem dkO_lK {kvs : List (AK × AV)} : dkO (some (.lK kvs)) = some kvs := rfl
theorem dtO_dT {kvs : List (List AK × AV)} : dtO (some (.dT kvs)) = some kvs := rfl
theorem dtO_lT {kvs : List (List AK × AV)} : dtO (some (.lT kvs)) = some kvs := rfl
theorem dGetB_T {n : Nat} {k : AV} : dGetB false M (.ref n) k = (dtO (M.get n)).bind fun kvs => (keyT k).map fun ks => look kvs ks := rfl
theorem dGetB_K {n : Nat} {k : AV} : dGetB true M (.ref n) k = (dkO (M.get n)).bind fun kvs => (AV.key k).map fun k => look kvs k := rfl
theorem keyT_tup {ks : List AV} : keyT (.tup ks) = keysOf ks := rfl
theorem key_int {i : Int} : AV.key (.int i) = some (.i i) := rfl
theorem key_str {x : String} : AV.key (.str x) = some (.s x) := rfl
theorem keysOf_nil : keysOf [] = some [] := rfl
theorem keysOf_cons {x : AV} {xs : List AV} : keysOf (x :: xs) = (x.key).bind fun k => (keysOf xs).bind fun ks => some (k :: ks) := rfl
def subR (o : Option AO) (y : AV) : Option AV := match o with
  | some (.lst xs) => match y with | .int i => atI xs i | _ => none
  | o => (dLook o y).bind fun z => z
def subO (x y : AV) (M : AH) : Option AV := match x with
  | .ref n => subR (M.get n) y
  | .tup xs => match y with | .int i => atI xs i | _ => none
  | _ => none
theorem subO_ref {n : Nat} {y : AV} : subO (.ref n) y M = subR (M.get n) y := rfl
theorem subO_tup {xs : List AV} {i : Int} : subO (.tup xs) (.int i) M = atI xs i := rfl
theorem subR_lst {xs : List AV} {i : Int} : subR (some (.lst xs)) (.int i) = atI xs i := rfl
theorem subR_dK {kvs : List (AK × AV)} {y : AV} : subR (some (.dK kvs)) y = (AV.key y).bind fun k => look kvs k := by
  show ((AV.key y).map fun k => look kvs k).bind _ = _
  cases AV.key y <;> rfl
theorem subR_lK {kvs : List (AK × AV)} {y : AV} : subR (some (.lK kvs)) y = (AV.key y).bind fun k => look kvs k := by
  show ((AV.key y).map fun k => look kvs k).bind _ = _
  cases AV.key y <;> rfl
theorem subR_dT {kvs : List (List AK × AV)} {y : AV} : subR (some (.dT kvs)) y = (keyT y).bind fun ks => look kvs ks := by
  show ((keyT y).map fun k => look kvs k).bind _ = _
  cases keyT y <;> rfl
theorem subR_lT {kvs : List (List AK × AV)} {y : AV} : subR (some (.lT kvs)) y = (keyT y).bind fun ks => look kvs ks := by
  show ((keyT y).map fun k => look kvs k).bind _ = _
  cases keyT y <;> rfl
theorem esub_eq (x y : AV) (M : AH) : (match x with
  | .ref n => match M.lst n with
    | some _ => oIx x y M
    | none => oDget x y M
  | _ => oIx x y M) = (subO x y M).map fun v => (v, M) := by
  cases x with
  | ref n =>
    show (match M.lst n with | some _ => oIx (.ref n) y M | none => oDget (.ref n) y M) = (subR (M.get n) y).map _
    rw [lst_get]
    have hd : oDget (.ref n) y M = ((dLook (M.get n) y).bind fun z => z).map fun v => (v, M) := by
      unfold oDget dGet
      dsimp only
      cases dLook (M.get n) y with
      | none => rfl
      | some z => rfl
    rw [hd]
    cases h : M.get n with
    | none => cases y <;> simp [lstO, subR]
    | some o =>
      cases o with
      | lst xs => cases y <;> simp [lstO, subR, oIx, lst_get, h]
      | _ => simp [lstO, subR]
  | tup xs => cases y <;> simp [subO, oIx]
  | _ => cases y <;> simp [subO, oIx]
theorem w_esub : wpO (eSub a b σ M) Q = wpO (a σ M) fun p => wpO (b σ p.2) fun q => wpO (subO p.1 q.1 q.2) fun v => Q (v, q.2) := by
  unfold eSub
  rw [w_bin]
  refine wpO_congr rfl (funext fun p => ?_)
  refine wpO_congr rfl (funext fun q => ?_)
  have := esub_eq p.1 q.1 q.2
  rw [← w_map (f := fun v => (v, q.2)), ← this]
  try rfl
def slO (v : AV) (M : AH) : Option (List AV) := match v with
  | .ref n => lstO (M.get n)
  | .ro xs => some xs
  | _ => none
theorem slO_ref {n : Nat} : slO (.ref n) M = lstO (M.get n) := rfl
theorem slO_ro {xs : List AV} : slO (.ro xs) M = some xs := rfl
theorem w_sl {l v : AO'} : wpO (eSl a l v σ M) Q = wpO (a σ M) fun p => wpO (l σ p.2) fun q => wpO (v σ q.2) fun r => wpO (slO p.1 r.2) fun xs => Q (.ref r.2.next, r.2.new (.lst (cutA xs q.1 r.1))) := by
  unfold eSl
  rw [w_bind]
  refine wpO_congr rfl (funext fun p => ?_)
  rw [w_bind]
  refine wpO_congr rfl (funext fun q => ?_)
  rw [w_bind]
  refine wpO_congr rfl (funext fun r => ?_)
  obtain ⟨v, N⟩ := p
  cases v with
  | ref n => show wpO ((r.2.lst n).map _) Q = wpO (lstO (r.2.get n)) _; rw [w_map]; rfl
  | ro xs => show wpO (some _) Q = wpO (some xs) _; rw [w_some, w_some]
  | _ => show wpO none Q = wpO none _; rw [w_none, w_none]
theorem w_pnone {QO : Option Int × AH → Prop} : wpO (pNone σ M) QO = QO (none, M) := w_some
def intO : AV → Option Int
  | .int i => some i
  | _ => none
theorem intO_int {i : Int} : intO (.int i) = some i := rfl
theorem w_ppart {QO : Option Int × AH → Prop} : wpO (pPart a σ M) QO = wpO (a σ M) fun p => wpO (intO p.1) fun i => QO (some i, p.2) := by
  unfold pPart
  rw [w_bind]
  refine wpO_congr rfl (funext fun p => ?_)
  obtain ⟨v, N⟩ := p
  cases v with
  | int i => show wpO (some _) QO = wpO (some i) _; rw [w_some, w_some]
  | _ => show wpO none QO = wpO none _; rw [w_none, w_none]
theorem w_lm {g : AM} : wpO (eLM g a r σ M) Q = wpO (a σ M) fun p => (slO p.1 p.2).isSome = true ∧ wpO (r σ p.2) fun q => wpO (match p.1 with | .ref n => g (.ref n) q.1 q.2 | _ => none) Q := by
  unfold eLM
  rw [w_bind]
  refine wpO_congr rfl (funext fun p => ?_)
  obtain ⟨v, N⟩ := p
  cases v with
  | ref n =>
    show wpO (if (N.lst n).isSome = true then (r σ N).bind fun q => g (.ref n) q.1 q.2 else none) Q = ((lstO (N.get n)).isSome = true ∧ _)
    rw [w_if, w_bind]
    rfl
  | ro xs =>
    show wpO none Q = (_ ∧ wpO (r σ N) fun q => wpO none Q)
    rw [w_none]
    refine propext ⟨fun z => z.elim, fun z => ?_⟩
    obtain ⟨_, _, _, z⟩ := z
    exact z.elim
  | _ => show wpO none Q = (false = true ∧ _); rw [w_none]; exact propext ⟨fun z => z.elim, fun z => absurd z.1 (by decide)⟩
theorem w_kw {g : List AV → AF} {r' : AA} : wpO (eKw g r r' σ M) Q = wpO (r σ M) fun p => wpO (r' σ p.2) fun q => wpO (g p.1 q.1 q.2) Q := by
  unfold eKw
  simp only [wpO_wq, q_bind]
/-! tests -/
def blO : AV → Option Bool
  | .bl b => some b
  | _ => none
theorem blO_bl {x : Bool} : blO (.bl x) = some x := rfl
theorem w_bl : wpO (qBl a σ M) QT = wpO (a σ M) fun p => wpO (blO p.1) fun x => QT (x, p.2) := by
  unfold qBl
  rw [w_bind]
  refine wpO_congr rfl (funext fun p => ?_)
  obtain ⟨v, N⟩ := p
  cases v with
  | bl x => show wpO (some (x, N)) QT = wpO (some x) _; rw [w_some, w_some]
  | _ => show wpO none QT = wpO none _; rw [w_none, w_none]
theorem w_tru : wpO (qTru a σ M) QT = wpO (a σ M) fun p => wpO (tru p.1 p.2) fun b => QT (b, p.2) := by unfold qTru; simp only [wpO_wq, q_bind, q_map]
theorem w_not : wpO (qNot t σ M) QT = wpO (t σ M) fun p => QT (!p.1, p.2) := by unfold qNot; simp only [wpO_wq, q_bind, q_some]
theorem w_and : wpO (qAnd t u σ M) QT = wpO (t σ M) fun p => br p.1 (wpO (u σ p.2) QT) (QT (false, p.2)) := by unfold qAnd; simp only [wpO_wq, q_bind, q_br, br_bq, q_some]
theorem w_or : wpO (qOr t u σ M) QT = wpO (t σ M) fun p => br p.1 (QT (true, p.2)) (wpO (u σ p.2) QT) := by unfold qOr; simp only [wpO_wq, q_bind, q_br, br_bq, q_some]
theorem w_yes : wpO (qYes σ M) QT = QT (true, M) := w_some
/-! statements -/
/-- what follows a statement -/
def thenS (s' : AS) (QS : Fl × ASt × AH → Prop) (p : Fl × ASt × AH) : Prop := match p.1 with
  | .nx => wpO (s' p.2.1 p.2.2) QS
  | f => QS (f, p.2)
theorem then_nx {σ : ASt} {M : AH} : thenS s' QS (.nx, σ, M) = wpO (s' σ M) QS := rfl
theorem then_rt {v : AV} {σ : ASt} {M : AH} : thenS s' QS (.rt v, σ, M) = QS (.rt v, σ, M) := rfl
theorem then_bk {σ : ASt} {M : AH} : thenS s' QS (.bk, σ, M) = QS (.bk, σ, M) := rfl
theorem then_ct {σ : ASt} {M : AH} : thenS s' QS (.ct, σ, M) = QS (.ct, σ, M) := rfl
theorem w_seq : wpO (sSeq s s' σ M) QS = wpO (s σ M) (thenS s' QS) := by
  unfold sSeq
  rw [w_bind]
  refine wpO_congr rfl (funext fun p => ?_)
  obtain ⟨f, σ1, M1⟩ := p
  cases f <;> first | rfl | exact w_some
theorem w_next : wpO (sNext σ M) QS = QS (.nx, σ, M) := w_some
theorem w_ret : wpO (sRet a σ M) QS = wpO (a σ M) fun p => QS (.rt p.1, σ, p.2) := by unfold sRet; simp only [wpO_wq, q_bind, q_some]
theorem w_expr : wpO (sExpr a σ M) QS = wpO (a σ M) fun p => QS (.nx, σ, p.2) := by unfold sExpr; simp only [wpO_wq, q_bind, q_some]
theorem w_asg {i : Nat} : wpO (sAsg a (aName i) σ M) QS = wpO (a σ M) fun p => QS (.nx, σ.set i (some p.1), p.2) := by unfold sAsg aName; simp only [wpO_wq, q_bind, q_some]
theorem w_name {i : Nat} {v : AV} {Qn : ASt → Prop} : wpO (aName i v σ) Qn = Qn (σ.set i (some v)) := w_some
theorem w_sif : wpO (sIf t s s' σ M) QS = wpO (t σ M) fun p => br p.1 (wpO (s σ p.2) QS) (wpO (s' σ p.2) QS) := by unfold sIf; simp only [wpO_wq, q_bind, q_br, br_bq]
theorem w_fset {cs : List String} {fl : String} : wpO (sFldSet cs fl a b σ M) QS = wpO (b σ M) fun p => wpO (a σ p.2) fun q => wpO (fldPut cs fl q.2 q.1 p.1) fun M' => QS (.nx, σ, M') := by unfold sFldSet; simp only [wpO_wq, q_bind, q_some]
theorem w_ssub : wpO (sSub a b c σ M) QS = wpO (c σ M) fun p => wpO (a σ p.2) fun q => wpO (b σ q.2) fun r => wpO (sSub.subPut r.2 q.1 r.1 p.1) fun M' => QS (.nx, σ, M') := by unfold sSub; simp only [wpO_wq, q_bind, q_some]
def endC (Q : AV × AH → Prop) (p : Fl × ASt × AH) : Prop := match p.1 with
  | .rt v => Q (v, p.2.2)
  | .nx => Q (.non, p.2.2)
  | _ => False
theorem end_rt {v : AV} {σ : ASt} {M : AH} : endC Q (.rt v, σ, M) = Q (v, M) := rfl
theorem end_nx {σ : ASt} {M : AH} : endC Q (.nx, σ, M) = Q (.non, M) := rfl
theorem w_call {n k : Nat} {avs : List AV} : wpO (callA s n k avs M) Q = (avs.length = k ∧ wpO (s (avs.map some ++ List.replicate (n - k) none) M) (endC Q)) := by
  unfold callA
  rw [w_if, w_bind]
  refine congrArg (fun Z => _ ∧ Z) (wpO_congr rfl (funext fun p => ?_))
  obtain ⟨f, σ1, M1⟩ := p
  cases f <;> first | exact w_some | exact w_none
def refO : AV → Option Nat
  | .ref n => some n
  | _ => none
theorem refO_ref {n : Nat} : refO (.ref n) = some n := rfl
theorem w_faug {cs : List String} {fl : String} : wpO (sFldAug' cs fl f a b σ M) QS = wpO (a σ M) fun p => wpO (refO p.1) fun n => wpO (insO (p.2.get n)) fun i => wpO (look i.2 fl) fun x => wpO (b σ p.2) fun q => wpO (f x q.1 q.2) fun r =>
    (insO (r.2.get n)).map (·.1) = some i.1 ∧ wpO (fldPut cs fl r.2 (.ref n) r.1) fun M' => QS (.nx, σ, M') := by
  unfold sFldAug'
  rw [w_bind]
  refine wpO_congr rfl (funext fun p => ?_)
  obtain ⟨v, N⟩ := p
  cases v with
  | ref n =>
    rw [refO_ref, w_some]
    show wpO (match N.ins n with | some (c, fs) => _ | none => none) QS = wpO (insO (N.get n)) _
    rw [ins_get]
    cases insO (N.get n) with
    | none => rw [w_none, w_none]
    | some i =>
      obtain ⟨c, fs⟩ := i
      dsimp only
      rw [w_some, w_bind]
      refine wpO_congr rfl (funext fun x => ?_)
      rw [w_bind]
      refine wpO_congr rfl (funext fun q => ?_)
      rw [w_bind]
      refine wpO_congr rfl (funext fun r => ?_)
      rw [w_if, w_bind]
      simp only [wpO_wq, q_some]
      rfl
  | _ => show wpO none QS = wpO none _; rw [w_none, w_none]
/-! operators, evaluated -/
theorem oAdd_i {i j : Int} : oAdd (.int i) (.int j) M = some (.int (i + j), M) := rfl
theorem oAddI_i {i j : Int} : oAddI (.int i) (.int j) M = some (.int (i + j), M) := rfl
theorem oSub_i {i j : Int} : oSub (.int i) (.int j) M = some (.int (i - j), M) := rfl
theorem oLt_i {i j : Int} : oLt (.int i) (.int j) M = some (.bl (decide (i < j)), M) := rfl
theorem oLe_i {i j : Int} : oLe (.int i) (.int j) M = some (.bl (decide (i ≤ j)), M) := rfl
theorem oGt_i {i j : Int} : oGt (.int i) (.int j) M = some (.bl (decide (j < i)), M) := rfl
theorem oGe_i {i j : Int} : oGe (.int i) (.int j) M = some (.bl (decide (j ≤ i)), M) := rfl
theorem wo_mul {i j : Int} : wpO (oMul (.int i) (.int j) M) Q = (((-(2 ^ 64) < i ∧ i < 2 ^ 64) ∨ (-(2 ^ 64) < j ∧ j < 2 ^ 64)) ∧ Q (.int (i * j), M)) := by
  show wpO (if _ then some (AV.int (i * j), M) else none) Q = _
  rw [w_if, w_some]
theorem wo_div {i j : Int} : wpO (oDiv (.int i) (.int j) M) Q = ((0 < j ∧ j < 1073741824) ∧ Q (.int (i / j), M)) := by
  show wpO (if _ then some (AV.int (i / j), M) else none) Q = _
  rw [w_if, w_some]
theorem wo_mod {i j : Int} : wpO (oMod (.int i) (.int j) M) Q = (0 < j ∧ Q (.int (i % j), M)) := by
  show wpO (if _ then some (AV.int (i % j), M) else none) Q = _
  rw [w_if, w_some]
theorem oIsN_n {x : AV} : oIsN x .non M = some (.bl (decide (x = .non)), M) := rfl
theorem oNotN_n {x : AV} : oNotN x .non M = some (.bl (!decide (x = .non)), M) := rfl
theorem wo_eq {x y : AV} : wpO (oEq x y M) Q = wpO (dat 8 M x) fun d => wpO (dat 8 M y) fun e => Q (.bl (PyData.eqv d e), M) := by unfold oEq; simp only [wpO_wq, q_bind, q_some]
theorem wo_ne {x y : AV} : wpO (oNe x y M) Q = wpO (dat 8 M x) fun d => wpO (dat 8 M y) fun e => Q (.bl (!PyData.eqv d e), M) := by unfold oNe; simp only [wpO_wq, q_bind, q_some]
theorem dat_int {i : Int} {k : Nat} : dat (k + 1) M (.int i) = some (.int i) := rfl
theorem dat_bl {i : Bool} {k : Nat} : dat (k + 1) M (.bl i) = some (.bool i) := rfl
theorem dat_non {k : Nat} : dat (k + 1) M .non = some .none := rfl
theorem dat_str {x : String} {k : Nat} : dat (k + 1) M (.str x) = some (.str (Str.ofString x)) := rfl
theorem dat_tup {xs : List AV} {k : Nat} : dat (k + 1) M (.tup xs) = (datL (dat k M) xs).map .tuple := rfl
theorem dat_ref {n : Nat} {k : Nat} : dat (k + 1) M (.ref n) = (lstO (M.get n)).bind fun xs => (datL (dat k M) xs).map .list := rfl
theorem datL_nil {g : AV → Option PyData} : datL g [] = some [] := rfl
theorem datL_cons {g : AV → Option PyData} {x : AV} {xs : List AV} : datL g (x :: xs) = (g x).bind fun d => (datL g xs).bind fun ds => some (d :: ds) := rfl
theorem datL_ints {g : AV → Option PyData} (h : ∀ i, g (.int i) = some (.int i)) : ∀ ns : List Int, datL g (ns.map .int) = some (ns.map .int)
  | [] => rfl
  | n :: ns => by rw [List.map_cons, datL_cons, h, datL_ints h ns]; rfl
theorem eqvAll_ints : ∀ (xs ys : List Int), PyData.eqvAll (xs.map .int) (ys.map .int) = decide (xs = ys)
  | [], [] => by simp [PyData.eqvAll]
  | [], y :: ys => by simp [PyData.eqvAll]
  | x :: xs, [] => by simp [PyData.eqvAll]
  | x :: xs, y :: ys => by
    rw [List.map_cons, List.map_cons, PyData.eqvAll, eqvAll_ints xs ys, PyData.eqv]
    by_cases h : x = y
    · subst h; simp
    · simp [h]
theorem eqv_ints {xs ys : List Int} : PyData.eqv (.list (xs.map .int)) (.list (ys.map .int)) = decide (xs = ys) := by rw [PyData.eqv, eqvAll_ints]
theorem eqv_int {x y : Int} : PyData.eqv (.int x) (.int y) = decide (x = y) := by
  rw [PyData.eqv]
  by_cases h : x = y
  · subst h; simp
  · simp [h]
theorem fAbs_i {i : Int} : fAbs [.int i] M = some (.int (if i < 0 then -i else i), M) := rfl
theorem fInt_i {i : Int} : fInt [.int i] M = some (.int i, M) := rfl
theorem fInt_b {x : Bool} : fInt [.bl x] M = some (.int (if x then 1 else 0), M) := rfl
theorem fReprB_b {x : Bool} : fReprB [.bl x] M = some (.str (if x then "True" else "False"), M) := rfl
theorem wf_tup {vs : List AV} : wpO (fTup vs M) Q = (vs.length ≤ 100000 ∧ Q (.tup vs, M)) := by unfold fTup; rw [w_if, w_some]
theorem wf_lst {vs : List AV} : wpO (fLst vs M) Q = (vs.length ≤ 100000 ∧ Q (.ref M.next, M.new (.lst vs))) := by unfold fLst; rw [w_if, w_some]
theorem fLen_l {n : Nat} {xs : List AV} (h : M.get n = some (.lst xs)) : fLen [.ref n] M = some (.int xs.length, M) := by
  unfold fLen seqOf
  dsimp only
  rw [lst_get, h]
  rfl
theorem fMax_ii {i j : Int} : fMax [.int i, .int j] M = some (.int (if j > i then j else i), M) := rfl
theorem intsOf_ints : ∀ ns : List Int, intsOf (ns.map .int) = some ns
  | [] => rfl
  | n :: ns => by rw [List.map_cons, intsOf, intsOf_ints ns]; rfl
theorem fMax_l {n : Nat} {is : List Int} (h : M.get n = some (.lst (is.map .int))) (hne : is ≠ []) : fMax [.ref n] M = some (.int (mx is), M) := by
  unfold fMax
  dsimp only
  rw [lst_get, h, lstO_lst, Option.bind_some, intsOf_ints, Option.bind_some, if_neg hne]
theorem fMaxD_l {n : Nat} {is : List Int} {d : Int} (h : M.get n = some (.lst (is.map .int))) : fMaxD [.ref n] [.int d] M = some (.int (if is = [] then d else mx is), M) := by
  unfold fMaxD
  dsimp only
  rw [lst_get, h, lstO_lst, Option.bind_some, intsOf_ints, Option.bind_some]
  split <;> rfl
theorem fList_l {n : Nat} {xs : List AV} (h : M.get n = some (.lst xs)) : fList [.ref n] M = some (.ref M.next, M.new (.lst xs)) := by
  unfold fList seqOf
  dsimp only
  rw [lst_get, h]
  rfl
theorem atI_0 {x : α} {xs : List α} : atI (x :: xs) 0 = some x := by simp [atI, ixN]
theorem atI_1 {x y : α} {xs : List α} : atI (x :: y :: xs) 1 = some y := L2.atI_nat (j := 1) rfl
theorem atI_2 {x y z : α} {xs : List α} : atI (x :: y :: z :: xs) 2 = some z := L2.atI_nat (j := 2) rfl
theorem atI_3 {x y z u : α} {xs : List α} : atI (x :: y :: z :: u :: xs) 3 = some u := L2.atI_nat (j := 3) rfl
theorem ixN_0 {n : Nat} : ixN (n + 1) 0 = some 0 := by simp [ixN]
theorem ixN_1 {n : Nat} : ixN (n + 2) 1 = some 1 := by
  unfold ixN
  rw [if_pos (by omega), if_pos (by omega)]
  rfl
def subW (o : Option AO) (n : Nat) (y v : AV) (M : AH) : Option AH := match o with
  | some (.lst xs) => match y with | .int j => (ixN xs.length j).map fun j => M.set n (.lst (xs.set j v)) | _ => none
  | some (.dK kvs) => (AV.key y).bind fun k => if kvs.length < 100000 then some (M.set n (.dK (putM kvs k v))) else none
  | some (.dT kvs) => (keyT y).bind fun ks => if kvs.length < 100000 then some (M.set n (.dT (putM kvs ks v))) else none
  | _ => none
theorem subPut_ref {n : Nat} {y v : AV} : sSub.subPut M (.ref n) y v = subW (M.get n) n y v M := by
  unfold sSub.subPut
  dsimp only
  rw [lst_get]
  cases h : M.get n with
  | none => simp [lstO, subW, dPut, h]
  | some o =>
    cases o with
    | lst xs => cases y <;> simp [lstO, subW]
    | _ => simp [lstO, subW, dPut, h]
theorem subW_lst {n : Nat} {xs : List AV} {j : Int} {v : AV} : subW (some (.lst xs)) n (.int j) v M = (ixN xs.length j).map fun j => M.set n (.lst (xs.set j v)) := rfl
theorem subW_dT {n : Nat} {kvs : List (List AK × AV)} {y v : AV} : subW (some (.dT kvs)) n y v M = (keyT y).bind fun ks => if kvs.length < 100000 then some (M.set n (.dT (putM kvs ks v))) else none := rfl
theorem subW_dK {n : Nat} {kvs : List (AK × AV)} {y v : AV} : subW (some (.dK kvs)) n y v M = (AV.key y).bind fun k => if kvs.length < 100000 then some (M.set n (.dK (putM kvs k v))) else none := rfl
theorem fldOf_ref {n : Nat} {f : String} : fldOf M (.ref n) f = (insO (M.get n)).bind fun p => look p.2 f := rfl
def putW (cs : List String) (f : String) (o : Option AO) (n : Nat) (y : AV) (M : AH) : Option AH := match o with
  | some (.ins c fs) => if cs.contains c = true ∧ fs.length < 1000 then some (M.set n (.ins c (put fs f y))) else none
  | _ => none
theorem fldPut_ref {cs : List String} {f : String} {n : Nat} {y : AV} : fldPut cs f M (.ref n) y = putW cs f (M.get n) n y M := by
  unfold fldPut putW
  dsimp only
  rw [ins_get]
  cases h : M.get n with
  | none => rfl
  | some o => cases o <;> rfl
theorem wp_putW {cs : List String} {f c : String} {n : Nat} {y : AV} {fs : List (String × AV)} {QH : AH → Prop} : wpO (putW cs f (some (.ins c fs)) n y M) QH = ((cs.contains c = true ∧ fs.length < 1000) ∧ QH (M.set n (.ins c (put fs f y)))) := by
  show wpO (if _ then some _ else none) QH = _
  rw [w_if, w_some]
theorem meth_ref {l : List (String × AF)} {nm : String} {n : Nat} : methOf l nm (.ref n) M = (insO (M.get n)).bind fun p => match look p.2 nm with | none => look l p.1 | some _ => none := rfl
theorem tru_bl {x : Bool} : tru (.bl x) M = some x := rfl
theorem tru_int {x : Int} : tru (.int x) M = some (x != 0) := rfl
theorem tru_non : tru .non M = some false := rfl
/-! loops -/
def rngL (n : Nat) : List AV := (List.range n).map fun k => .int (k : Nat)
def okT : AH → Bool := fun _ => true
theorem w_for {it : AI} {g : AG} : wpO (sFor it g s σ M) QS = wpO (it σ M) fun p => wpO (forGo g s p.1.ok p.1.all σ p.2) QS := by unfold sFor; rw [w_bind]
def okL (n : Nat) (xs : List AV) : AH → Bool := fun M => lstO (M.get n) = some xs
theorem okL_eq {n : Nat} {xs : List AV} : (okL n xs M = true) = (lstO (M.get n) = some xs) := by unfold okL; exact decide_eq_true_eq
def itO (v : AV) (M : AH) : Option AIt := match v with
  | .ref n => (lstO (M.get n)).map fun xs => ⟨xs, okL n xs⟩
  | .ro xs => some ⟨xs, okT⟩
  | .tup xs => some ⟨xs, okT⟩
  | _ => none
theorem itO_tup {xs : List AV} : itO (.tup xs) M = some ⟨xs, okT⟩ := rfl
theorem itO_ref {n : Nat} : itO (.ref n) M = (lstO (M.get n)).map fun xs => ⟨xs, okL n xs⟩ := rfl
theorem itO_ro {xs : List AV} : itO (.ro xs) M = some ⟨xs, okT⟩ := rfl
theorem w_itList {QI : AIt × AH → Prop} : wpO (itList a σ M) QI = wpO (a σ M) fun p => wpO (itO p.1 p.2) fun I => QI (I, p.2) := by
  unfold itList
  rw [w_bind]
  refine wpO_congr rfl (funext fun p => ?_)
  obtain ⟨v, N⟩ := p
  cases v with
  | ref n => show wpO ((N.lst n).map _) QI = wpO ((lstO (N.get n)).map _) _; rw [w_map, w_map]; rfl
  | ro xs => show wpO (some _) QI = wpO (some _) _; rw [w_some, w_some]; rfl
  | tup xs => show wpO (some _) QI = wpO (some _) _; rw [w_some, w_some]; rfl
  | _ => show wpO none QI = wpO none _; rw [w_none, w_none]
def r1O : List AV → Option Int
  | [.int j] => some j
  | _ => none
theorem r1O_1 {j : Int} : r1O [.int j] = some j := rfl
theorem w_itR1 {QI : AIt × AH → Prop} : wpO (itR1 r σ M) QI = wpO (r σ M) fun p => wpO (r1O p.1) fun j => (-(2 ^ 62) ≤ j ∧ j < 2 ^ 62) ∧ QI (⟨rngL j.toNat, okT⟩, p.2) := by
  unfold itR1
  rw [w_bind]
  refine wpO_congr rfl (funext fun p => ?_)
  obtain ⟨vs, N⟩ := p
  dsimp only
  split
  · rw [r1O_1, w_some, w_if, w_some]; rfl
  · rename_i h
    rw [w_none]
    have : r1O vs = none := by
      unfold r1O
      split
      · exact absurd rfl (h _)
      · rfl
    rw [this, w_none]
theorem w_itR2 : wpO (itR2 r σ M) = fun Q => wpO (r σ M) fun p => wpO (match p.1 with
  | [.int i, .int j] => if -(2 ^ 62) ≤ i ∧ i < 2 ^ 62 ∧ -(2 ^ 62) ≤ j ∧ j < 2 ^ 62 then some ((⟨(List.range (j - i).toNat).map fun k => .int (i + (k : Nat)), fun _ => true⟩ : AIt), p.2) else none
  | _ => none) Q := by funext Q; unfold itR2; rw [w_bind]; try rfl
theorem wp_for {g : AG} {ok : AH → Bool} {all : List AV} (I : Nat → ASt → AH → Prop) (h0 : I 0 σ M)
    (ht : ∀ i x σ M, all[i]? = some x → I i σ M → ok M = true ∧ wpO (g x σ) fun σ1 => wpO (s σ1 M) fun p => match p.1 with
      | .nx => I (i + 1) p.2.1 p.2.2
      | .ct => I (i + 1) p.2.1 p.2.2
      | .bk => QS (.nx, p.2)
      | .rt v => QS (.rt v, p.2))
    (he : ∀ σ M, I all.length σ M → ok M = true ∧ QS (.nx, σ, M)) : wpO (forGo g s ok all σ M) QS := by
  suffices h : ∀ (xs : List AV) (i : Nat) (σ : ASt) (M : AH), xs = all.drop i → i ≤ all.length → I i σ M → wpO (forGo g s ok xs σ M) QS from h all 0 σ M rfl (Nat.zero_le _) h0
  intro xs
  induction xs with
  | nil =>
    intro i σ M e hi h
    have : i = all.length := by
      have := congrArg List.length e
      rw [List.length_drop] at this
      simp at this
      omega
    subst this
    obtain ⟨h1, h2⟩ := he σ M h
    unfold forGo
    rw [if_pos h1, w_some]
    exact h2
  | cons x xs ih =>
    intro i σ M e hi h
    have hlt : i < all.length := by
      have := congrArg List.length e
      rw [List.length_drop] at this
      simp at this
      omega
    have hx : all[i]? = some x := by
      have := congrArg (fun l => l[0]?) e
      simp only [List.getElem?_drop, List.getElem?_cons_zero] at this
      exact this.symm
    have hd : xs = all.drop (i + 1) := by
      have := congrArg List.tail e
      simpa [List.tail_drop] using this
    obtain ⟨h1, h2⟩ := ht i x σ M hx h
    unfold forGo
    rw [if_pos h1, w_bind]
    refine h2.mono fun σ1 h3 => ?_
    rw [w_bind]
    refine h3.mono fun p h4 => ?_
    obtain ⟨fl, σ2, M2⟩ := p
    cases fl with
    | nx => exact ih (i + 1) _ _ hd hlt h4
    | ct => exact ih (i + 1) _ _ hd hlt h4
    | bk => rw [w_some]; exact h4
    | rt v => rw [w_some]; exact h4
theorem w_lc {it : AI} {i : Nat} : wpO (eLc it i t a σ M) Q = wpO (it σ M) fun p => wpO (lcGo p.2.next p.1.ok t a i σ p.1.all (p.2.new (.lst []))) fun M' => Q (.ref p.2.next, M') := by unfold eLc; simp only [wpO_wq, q_bind, q_map]
theorem wp_lc {D j : Nat} {ok : AH → Bool} {all : List AV} {QM : AH → Prop} (I : Nat → AH → Prop) (h0 : I 0 M)
    (ht : ∀ i x M, all[i]? = some x → I i M → ok M = true ∧ wpO (t (σ.set j (some x)) M) fun p => if p.1 = true then wpO (a (σ.set j (some x)) p.2) fun q => wpO (q.2.lst D) fun acc => acc.length < 100000 ∧ I (i + 1) (q.2.set D (.lst (acc ++ [q.1]))) else I (i + 1) p.2)
    (he : ∀ M, I all.length M → ok M = true ∧ QM M) : wpO (lcGo D ok t a j σ all M) QM := by
  suffices h : ∀ (xs : List AV) (i : Nat) (M : AH), xs = all.drop i → i ≤ all.length → I i M → wpO (lcGo D ok t a j σ xs M) QM from h all 0 M rfl (Nat.zero_le _) h0
  intro xs
  induction xs with
  | nil =>
    intro i M e hi h
    have : i = all.length := by
      have := congrArg List.length e
      rw [List.length_drop] at this
      simp at this
      omega
    subst this
    obtain ⟨h1, h2⟩ := he M h
    unfold lcGo
    rw [if_pos h1, w_some]
    exact h2
  | cons x xs ih =>
    intro i M e hi h
    have hlt : i < all.length := by
      have := congrArg List.length e
      rw [List.length_drop] at this
      simp at this
      omega
    have hx : all[i]? = some x := by
      have := congrArg (fun l => l[0]?) e
      simp only [List.getElem?_drop, List.getElem?_cons_zero] at this
      exact this.symm
    have hd : xs = all.drop (i + 1) := by
      have := congrArg List.tail e
      simpa [List.tail_drop] using this
    obtain ⟨h1, h2⟩ := ht i x M hx h
    unfold lcGo
    rw [if_pos h1, w_bind]
    refine h2.mono fun p h3 => ?_
    obtain ⟨b, M1⟩ := p
    cases b with
    | false =>
      rw [if_neg (by simp)] at h3
      rw [if_neg (by simp)]
      exact ih (i + 1) _ hd hlt h3
    | true =>
      rw [if_pos rfl] at h3
      rw [if_pos rfl, w_bind]
      refine h3.mono fun q h4 => ?_
      rw [w_bind]
      refine h4.mono fun acc h5 => ?_
      rw [if_pos h5.1]
      exact ih (i + 1) _ hd hlt h5.2
/-- a comprehension whose element is reckoned without a change -/
theorem wp_lcp {D j : Nat} {ok : AH → Bool} {all : List AV} {QM : AH → Prop} (f : AV → AV) (hl : all.length ≤ 100000) (hok : ∀ acc, ok (M.new (.lst acc)) = true)
    (ht : ∀ x ∈ all, ∀ (acc : List AV) (Q : AV × AH → Prop), Q (f x, M.new (.lst acc)) → wpO (a (σ.set j (some x)) (M.new (.lst acc))) Q)
    (k : QM (M.new (.lst (all.map f)))) (hD : D = M.next := by rfl) : wpO (lcGo D ok qYes a j σ all (M.new (.lst []))) QM := by
  subst hD
  refine wp_lc (fun i M' => M' = M.new (.lst ((all.take i).map f))) rfl (fun i x M' hx h => ?_) (fun M' h => ?_)
  · subst h
    have hlt := (List.getElem?_eq_some_iff.mp hx).1
    refine ⟨hok _, ?_⟩
    rw [w_yes, if_pos rfl]
    refine ht x (List.mem_of_getElem? hx) _ _ ?_
    rw [lst_get, get_new, sel_self, lstO_lst, w_some]
    refine ⟨by rw [List.length_map, List.length_take]; omega, ?_⟩
    rw [new_set]
    congr 2
    rw [List.take_add_one, hx, List.map_append]
    rfl
  · subst h
    rw [List.take_length]
    exact ⟨hok _, k⟩
theorem rngL_mem {n : Nat} {x : AV} (h : x ∈ rngL n) : ∃ k : Nat, k < n ∧ x = .int (k : Nat) := by
  obtain ⟨k, h1, h2⟩ := List.mem_map.mp h
  exact ⟨k, List.mem_range.mp h1, h2.symm⟩
theorem rngL_len {n : Nat} : (rngL n).length = n := by unfold rngL; rw [List.length_map, List.length_range]
theorem rngL_get {n i : Nat} {x : AV} (h : (rngL n)[i]? = some x) : i < n ∧ x = .int (i : Nat) := by
  have hlt := (List.getElem?_eq_some_iff.mp h).1
  rw [rngL_len] at hlt
  unfold rngL at h
  rw [List.getElem?_map, List.getElem?_range hlt] at h
  cases h
  exact ⟨hlt, rfl⟩
end
end Sy
/-! SyH: further words: tuple targets, bools as values, while, break, op=, in, displays of dicts, insert, sorted, min, sum, the module's own tuples. -/
namespace Sy
open PySem L2 PySem.Spec PyProof.Rows
/-! ### the words -/
def goT : List AG → List AV → ASt → Option ASt
  | [], [], σ => some σ
  | g :: gs, x :: xs, σ => (g x σ).bind fun σ' => goT gs xs σ'
  | _, _, _ => none
def aTup (gs : List AG) : AG := fun v σ => match v with
  | .tup xs => goT gs xs σ
  | _ => none
def eAndV (a b : AE) : AE := fun σ M => (a σ M).bind fun p => match p.1 with
  | .bl c => if c = true then b σ p.2 else some (.bl false, p.2)
  | _ => none
def eOrV (a b : AE) : AE := fun σ M => (a σ M).bind fun p => match p.1 with
  | .bl c => if c = true then some (.bl true, p.2) else b σ p.2
  | _ => none
def fNotV : A1 := fun v M => match v with | .bl c => some (.bl (!c), M) | _ => none
def fNeg : A1 := fun v M => match v with | .int i => some (.int (-i), M) | _ => none
def whileGo (c : AT) (b : AS) : Nat → AS
  | 0 => fun _ _ => none
  | n + 1 => fun σ M => (c σ M).bind fun p => if p.1 = true then (b σ p.2).bind fun q => match q.1 with
      | .nx => whileGo c b n q.2.1 q.2.2
      | .ct => whileGo c b n q.2.1 q.2.2
      | .bk => some (.nx, q.2)
      | .rt v => some (.rt v, q.2)
    else some (.nx, σ, p.2)
def sWhile (c : AT) (b : AS) : AS := whileGo c b 1000000
def sAug (i : Nat) (f : A2) (a : AE) : AS := fun σ M => match σ[i]? with
  | some (some x) => (a σ M).bind fun p => (f x p.1 p.2).bind fun q => some (.nx, σ.set i (some q.1), q.2)
  | _ => none
def oIsB : A2 := fun x y M => match x, y with | .bl a, .bl b => some (.bl (decide (a = b)), M) | _, _ => none
def oNotB : A2 := fun x y M => match x, y with | .bl a, .bl b => some (.bl (!decide (a = b)), M) | _, _ => none
/-- x in ys -/
def inB (x y : AV) (M : AH) : Option Bool := match y with
  | .ro xs => (dat 8 M x).bind fun d => (datL (dat 7 M) xs).map fun ds => ds.any fun z => PyData.eqv z d
  | .ref n => match M.get n with
    | some (.lst xs) => (dat 8 M x).bind fun d => (datL (dat 7 M) xs).map fun ds => ds.any fun z => PyData.eqv z d
    | _ => (dGet M y x).map fun o => o.isSome
  | _ => none
def oInB : A2 := fun x y M => (inB x y M).map fun b => (.bl b, M)
def oNinB : A2 := fun x y M => (inB x y M).map fun b => (.bl (!b), M)
def oInX (neg : Bool) : A2 := fun x y M => (inB x y M).map fun c => (.bl (neg ^^ c), M)
theorem oInX_f : oInX false = oInB := by unfold oInX oInB; simp only [Bool.false_xor]
theorem oInX_t : oInX true = oNinB := by unfold oInX oNinB; simp only [Bool.true_xor]
def mInsert : AM := fun x vs M => match x, vs with
  | .ref n, [.int i, y] => (M.lst n).bind fun xs => if xs.length < 100000 ∧ 0 ≤ i ∧ i < 2 ^ 63 then some (.non, M.set n (.lst (xs.take i.toNat ++ [y] ++ xs.drop i.toNat))) else none
  | _, _ => none
def seqV (v : AV) (M : AH) : Option (List AV) := match v with
  | .ref n => M.lst n
  | .ro xs => some xs
  | _ => none
def intsK : List AK → Option (List Int)
  | [] => some []
  | .i n :: r => (intsK r).map fun is => n :: is
  | _ :: _ => none
/-- the numbers that a list has, or that are a dict's keys (the second: fewer than 64) -/
def numsV (v : AV) (M : AH) : Option (List Int × Bool) := match seqV v M with
  | some xs => (intsOf xs).map fun ns => (ns, false)
  | none => match v with
    | .ref n => (dkO (M.get n)).bind fun kvs => (intsK (kvs.map (·.1))).bind fun ns => if ns.length < 64 then some (ns, true) else none
    | _ => none
def fSorted : AF := fun vs M => match vs with
  | [v] => (numsV v M).map fun p => (.ref M.next, M.new (.lst ((p.1.mergeSort).map .int)))
  | _ => none
def fMin : AF := fun vs M => match vs with
  | [v] => (seqV v M).bind fun xs => (intsOf xs).bind fun ns => ns.min?.map fun m => (.int m, M)
  | _ => none
def fSum : AF := fun vs M => match vs with
  | [v] => (seqV v M).bind fun xs => (intsOf xs).map fun ns => (.int ns.sum, M)
  | _ => none
/-! ### they are kept -/
section
variable {K : PySem.W.Frag} {cl : Cle} {X : Cx}
inductive SimGs (K : PySem.W.Frag) (cl : Cle) : TGs → List AG → Prop where
  | nil : SimGs K cl gNil []
  | cons {t : TG} {u : TGs} {g : AG} {gs : List AG} : SimG K cl t g → SimGs K cl u gs → SimGs K cl (gCons t u) (g :: gs)
theorem goT_len : ∀ {gs : List AG} {xs : List AV} {σ σ' : ASt}, goT gs xs σ = some σ' → xs.length = gs.length
  | [], [], _, _, _ => rfl
  | [], _ :: _, _, _, h => by cases h
  | _ :: _, [], _, _, h => by cases h
  | g :: gs, x :: xs, σ, σ', h => by
    unfold goT at h
    obtain ⟨σ1, _, h⟩ := Option.bind_eq_some_iff.mp h
    rw [List.length_cons, List.length_cons, goT_len h]
theorem simgs_go {u : TGs} {gs : List AG} (h : SimGs K cl u gs) : ∀ ⦃ρ M H xs cs σ c σ'⦄, Sm K cl ρ M H → RVs K ρ H xs cs → RS K ρ H σ c → goT gs xs σ = some σ' → ∀ Q : L2.St → Hp → Prop, (∀ c', RS K ρ H σ' c' → Q c' H) → u cs c H Q := by
  induction h with
  | nil =>
    intro ρ M H xs cs σ c σ' S r R h Q k
    cases xs with
    | nil =>
      cases h
      rw [RVs] at r
      subst r
      exact ⟨rfl, k _ R⟩
    | cons x xs => cases h
  | @cons t u g gs h1 h2 ih =>
    intro ρ M H xs cs σ c σ' S r R h Q k
    cases xs with
    | nil => cases h
    | cons x xs =>
      unfold goT at h
      obtain ⟨σ1, e1, h⟩ := Option.bind_eq_some_iff.mp h
      rw [RVs] at r
      obtain ⟨d, r', rfl, r1, r2⟩ := r
      exact ⟨d, r', rfl, h1 S r1 R e1 _ fun c' R' => ih S r2 R' h Q k⟩
theorem sim_gtup {u : TGs} {gs : List AG} (h : SimGs K cl u gs) : SimG K cl (gTup K gs.length u) (aTup gs) := by
  intro ρ M H x y σ c σ' S r R h' Q k
  unfold aTup at h'
  split at h'
  · rw [RV] at r
    obtain ⟨a, cs, rfl, g, rs⟩ := r
    exact ⟨a, cs, rfl, g.sqt, by rw [rs.length, goT_len h'], simgs_go h S rs R h' Q k⟩
  · cases h'
theorem sim_andV {ta tb : TE} {a b : AE} (ha : SimE K cl ta a) (hb : SimE K cl tb b) : SimE K cl (tAndV ta tb) (eAndV a b) := by
  intro ρ M H σ c v M' S R h Q k
  obtain ⟨⟨x, M1⟩, e1, h⟩ := Option.bind_eq_some_iff.mp h
  refine ha S R e1 _ fun ρ1 H1 w S1 m1 r1 => ?_
  cases x with
  | bl z =>
    rw [RV] at r1
    refine ⟨z, r1, ?_⟩
    cases z with
    | true => exact hb S1 (R.mo m1) h _ fun ρ2 H2 w2 S2 m2 r2 => k _ _ _ S2 (m1.trans m2) r2
    | false => cases h; exact k _ _ _ S1 m1 (rv_bl _)
  | _ => cases h
theorem sim_orV {ta tb : TE} {a b : AE} (ha : SimE K cl ta a) (hb : SimE K cl tb b) : SimE K cl (tOrV ta tb) (eOrV a b) := by
  intro ρ M H σ c v M' S R h Q k
  obtain ⟨⟨x, M1⟩, e1, h⟩ := Option.bind_eq_some_iff.mp h
  refine ha S R e1 _ fun ρ1 H1 w S1 m1 r1 => ?_
  cases x with
  | bl z =>
    rw [RV] at r1
    refine ⟨z, r1, ?_⟩
    cases z with
    | false => exact hb S1 (R.mo m1) h _ fun ρ2 H2 w2 S2 m2 r2 => k _ _ _ S2 (m1.trans m2) r2
    | true => cases h; exact k _ _ _ S1 m1 (rv_bl _)
  | _ => cases h
theorem sim_notV {ta : TE} {a : AE} (ha : SimE K cl ta a) : SimE K cl (tNotV ta) (eUn fNotV a) := by
  intro ρ M H σ c v M' S R h Q k
  obtain ⟨⟨x, M1⟩, e1, h⟩ := Option.bind_eq_some_iff.mp h
  refine ha S R e1 _ fun ρ1 H1 w S1 m1 r1 => ?_
  cases x with
  | bl z =>
    cases h
    rw [RV] at r1
    exact ⟨z, r1, k _ _ _ S1 m1 (rv_bl _)⟩
  | _ => cases h
theorem sim_neg : Sim1 K cl (rU fun i => .int (-i)) fNeg := by
  intro ρ M H x c v M' S r h Q k
  cases x with
  | int i =>
    cases h
    rw [RV] at r
    exact ⟨i, r, k _ _ _ S (Mo.refl _ _) (rv_int _)⟩
  | _ => cases h
theorem sim_while {tc : TT} {c : AT} {tb : TS} {b : AS} (hc : SimT K cl tc c) (hb : SimS K cl tb b) : SimS K cl (tWhile tc tb) (sWhile c b) := by
  intro ρ M H σ s f σ' M' S R h D k
  refine ⟨fun m c' H' => ∃ ρ2 M2 σ2, Sm K cl ρ2 M2 H' ∧ Mo ρ H ρ2 H' ∧ RS K ρ2 H' σ2 c' ∧ whileGo c b m σ2 M2 = some (f, σ', M'), ⟨_, ρ, M, σ, S, Mo.refl _ _, R, h⟩, ?_⟩
  rintro m s2 H2 ⟨ρ2, M2, σ2, S2, m2, R2, h2⟩
  cases m with
  | zero => cases h2
  | succ m =>
    obtain ⟨⟨z, M3⟩, e3, h2⟩ := Option.bind_eq_some_iff.mp h2
    refine hc S2 R2 e3 _ fun ρ3 H3 S3 m3 => ?_
    cases z with
    | false =>
      rw [if_neg (by simp)] at h2
      cases h2
      rw [if_neg (by simp)]
      exact k _ _ _ S3 (m2.trans m3) (R2.mo m3)
    | true =>
      rw [if_pos rfl] at h2
      rw [if_pos rfl]
      obtain ⟨⟨f4, σ4, M4⟩, e4, h2⟩ := Option.bind_eq_some_iff.mp h2
      refine ⟨fun c5 H5 => ∃ ρ5, Sm K cl ρ5 M4 H5 ∧ Mo ρ H ρ5 H5 ∧ RS K ρ5 H5 σ4 c5 ∧ whileGo c b m σ4 M4 = some (f, σ', M'), ?_, ?_⟩
      · rintro c5 H5 ⟨ρ5, S5, m5, R5, h5⟩
        exact ⟨m, Nat.lt_succ_self m, ρ5, M4, σ4, S5, m5, R5, h5⟩
      · refine hb S3 (R2.mo m3) e4 _ fun ρ6 H6 c6 S6 m6 R6 => ?_
        have mm := (m2.trans m3).trans m6
        cases f4 with
        | nx => exact ⟨ρ6, S6, mm, R6, h2⟩
        | ct => exact ⟨ρ6, S6, mm, R6, h2⟩
        | bk => cases h2; exact k _ _ _ S6 mm R6
        | rt v => cases h2; exact k _ _ _ S6 mm R6
theorem sim_aug {i : Nat} {te : TE} {a : AE} {t : TIp} {f : A2} (ha : SimE K cl te a) (hf : Sim2 K cl t f) : SimS K cl (tAug i te t) (sAug i f a) := by
  intro ρ M H σ c fl σ' M' S R h D k
  unfold sAug at h
  split at h
  · rename_i x e
    obtain ⟨⟨y, M1⟩, e1, h⟩ := Option.bind_eq_some_iff.mp h
    obtain ⟨⟨z, N2⟩, e2, h⟩ := Option.bind_eq_some_iff.mp h
    cases h
    obtain ⟨d, ed, rd⟩ := R.get e
    refine ⟨d, ed, ha S R e1 _ fun ρ1 H1 w S1 m1 r1 => ?_⟩
    refine hf S1 (rd.mo m1) r1 e2 _ fun ρ2 H2 w2 S2 m2 r2 => ?_
    exact k _ _ _ S2 (m1.trans m2) (RS.set (x := some z) (y := some w2) r2 i (R.mo (m1.trans m2)))
  · cases h
theorem sim_ipAdd : Sim2 K cl (ipI fun i j => i + j) oAddI := by
  intro ρ M H x y c d v M' S r s h Q k
  unfold oAddI ii at h
  split at h
  · cases h
    rw [RV] at r s
    exact ⟨_, _, r, s, k _ _ _ S (Mo.refl _ _) (rv_int _)⟩
  · cases h
theorem sim_ipSub : Sim2 K cl (ipI fun i j => i - j) oSub := by
  intro ρ M H x y c d v M' S r s h Q k
  unfold oSub ii at h
  split at h
  · cases h
    rw [RV] at r s
    exact ⟨_, _, r, s, k _ _ _ S (Mo.refl _ _) (rv_int _)⟩
  · cases h
theorem sim_isB : Sim2 K cl rIsB oIsB := by
  intro ρ M H x y c d v M' S r s h Q k
  unfold oIsB at h
  split at h
  · cases h
    rw [RV] at r s
    exact ⟨_, _, r, s, k _ _ _ S (Mo.refl _ _) (rv_bl _)⟩
  · cases h
theorem sim_notB : Sim2 K cl rNotB oNotB := by
  intro ρ M H x y c d v M' S r s h Q k
  unfold oNotB at h
  split at h
  · cases h
    rw [RV] at r s
    exact ⟨_, _, r, s, k _ _ _ S (Mo.refl _ _) (rv_bl _)⟩
  · cases h
theorem simm_insert : SimM K cl (fun x vs H Q => ∃ (l : Addr) (xs : List V) (i : Int) (y : V), x = .ref l ∧ vs = [.int i, y] ∧ H l = some (.lst xs) ∧ xs.length < sizeLine ∧ 0 ≤ i ∧ i < 2 ^ 63 ∧
    Q .non (upd H l (.lst (xs.take i.toNat ++ [y] ++ xs.drop i.toNat)))) mInsert := by
  intro ρ M H x xs c cs v M' S r rs h Q k
  unfold mInsert at h
  split at h
  · obtain ⟨zs, e1, h⟩ := Option.bind_eq_some_iff.mp h
    split at h
    case isFalse => cases h
    rename_i hl
    cases h
    obtain ⟨y1, y2, rfl, r1, r2⟩ := rvs2 rs
    rw [RV] at r1
    subst r1
    obtain ⟨a, ds, rfl, ra, g, rz⟩ := ref_lst S r e1
    obtain ⟨S', m⟩ := set_lst S e1 ra (((rz.take _).append (RVs.cons r2 RVs.nil)).append (rz.drop _))
    exact ⟨a, ds, _, y2, rfl, rfl, g, by rw [rz.length]; exact lt_sizeLine hl.1, hl.2.1, hl.2.2, k _ _ _ S' m rv_non⟩
  · cases h
theorem seqV_sim {ρ : Rho} {M : AH} {H : Hp} {v : AV} {c : V} {xs : List AV} (S : Sm K cl ρ M H) (r : RV K ρ H v c) (h : seqV v M = some xs) : ∃ a cs, c = .ref a ∧ SqL K H a cs ∧ RVs K ρ H xs cs := by
  unfold seqV at h
  split at h
  · obtain ⟨a, ds, rfl, ra, g, rz⟩ := ref_lst S r h
    exact ⟨a, ds, rfl, .inl (.inl g), rz⟩
  · cases h
    rw [RV] at r
    obtain ⟨a, cs, rfl, g, rs⟩ := r
    exact ⟨a, cs, rfl, g.sql, rs⟩
  · cases h
theorem simc_sum : SimC K cl (rSum K) fSum := by
  intro ρ M H x c v M' S r h Q k
  unfold fSum at h
  split at h
  · obtain ⟨xs, e1, h⟩ := Option.bind_eq_some_iff.mp h
    obtain ⟨ns, e2, h⟩ := Option.map_eq_some_iff.mp h
    cases h
    obtain ⟨d, rfl, r1⟩ := rvs1 r
    obtain ⟨a, cs, rfl, sq, rs⟩ := seqV_sim S r1 e1
    rw [intsOf_eq e2] at rs
    have := rs.ints
    subst this
    exact ⟨a, ns, rfl, sq, k _ _ _ S (Mo.refl _ _) (rv_int _)⟩
  · cases h
theorem simc_min : SimC K cl (rMin K) fMin := by
  intro ρ M H x c v M' S r h Q k
  unfold fMin at h
  split at h
  · obtain ⟨xs, e1, h⟩ := Option.bind_eq_some_iff.mp h
    obtain ⟨ns, e2, h⟩ := Option.bind_eq_some_iff.mp h
    obtain ⟨m, e3, h⟩ := Option.map_eq_some_iff.mp h
    cases h
    obtain ⟨d, rfl, r1⟩ := rvs1 r
    obtain ⟨a, cs, rfl, sq, rs⟩ := seqV_sim S r1 e1
    rw [intsOf_eq e2] at rs
    have := rs.ints
    subst this
    obtain ⟨q1, q2⟩ := List.min?_eq_some_iff.mp e3
    refine ⟨a, ns, rfl, sq, List.length_pos_of_mem q1, fun m' h1 h2 => ?_⟩
    have e : m' = m := Int.le_antisymm (h2 m q1) (q2 m' h1)
    subst e
    exact k _ _ _ S (Mo.refl _ _) (rv_int _)
  · cases h
theorem perm_sorted {xs ys : List Int} (p : xs.Perm ys) (hx : xs.Pairwise (· ≤ ·)) (hy : ys.Pairwise (· ≤ ·)) : xs = ys :=
  List.Perm.eq_of_pairwise (le := fun a b => a ≤ b) (fun a b _ _ h1 h2 => Int.le_antisymm h1 h2) hx hy p
theorem intsK_eq : ∀ {ks : List AK} {ns : List Int}, intsK ks = some ns → ks.map AK.k = ns.map Sum.inl
  | [], _, h => by cases h; rfl
  | .i n :: r, _, h => by
    unfold intsK at h
    obtain ⟨is, e, h⟩ := Option.map_eq_some_iff.mp h
    subst h
    rw [List.map_cons, List.map_cons, intsK_eq e]
    rfl
  | .s _ :: _, _, h => by cases h
theorem REs.ks {ρ : Rho} {H : Hp} : ∀ {kvs : List (AK × AV)} {cs : List (Key × V)}, REs AK.k K ρ H kvs cs → cs.map (·.1) = (kvs.map (·.1)).map AK.k
  | _, _, .nil => rfl
  | _, _, .cons h t => by rw [List.map_cons, List.map_cons, List.map_cons, REs.ks t, h.1]
abbrev rSortedD : List V → Hp → VK → Prop := fun xs H Q => ∃ (a : Addr) (kvs : List (Key × V)) (ks : List Int), xs = [.ref a] ∧ Rd H a (.dK kvs) ∧ kvs.map (·.1) = ks.map Sum.inl ∧ ks.length < 64 ∧
    ∀ (ys : List Int) (p : Addr), ys.Perm ks → ys.Pairwise (· ≤ ·) → H p = none → Q (.ref p) (upd H p (.lst (ys.map V.int)))
theorem sorted_is {ns ns' : List Int} (h1 : ns'.Perm ns) (h2 : ns'.Pairwise (· ≤ ·)) : ns' = ns.mergeSort := perm_sorted (h1.trans (List.mergeSort_perm ns _).symm) h2 (by
      have := List.pairwise_mergeSort (le := fun a b : Int => decide (a ≤ b)) (by intro a b c; simp; omega) (by intro a b; simp; omega) ns
      exact this.imp fun h => by simpa using h)
theorem simc_sorted : SimC K cl (fun vs H Q => rSortedI K vs H Q ∨ rSortedD vs H Q) fSorted := by
  intro ρ M H x c v M' S r h Q k
  unfold fSorted at h
  split at h
  · obtain ⟨⟨ns, b⟩, e1, h⟩ := Option.map_eq_some_iff.mp h
    cases h
    obtain ⟨d, rfl, r1⟩ := rvs1 r
    unfold numsV at e1
    split at e1
    · rename_i xs es
      obtain ⟨ns', e2, e3⟩ := Option.map_eq_some_iff.mp e1
      cases e3
      obtain ⟨a, cs, rfl, sq, rs⟩ := seqV_sim S r1 es
      rw [intsOf_eq e2] at rs
      have := rs.ints
      subst this
      refine .inl ⟨a, ns, rfl, sq, fun ns' p h1 h2 hp => ?_⟩
      rw [sorted_is h1 h2]
      obtain ⟨ρ', S', m', r'⟩ := new_lst S (RVs.of_ints ns.mergeSort) hp
      exact k _ _ _ S' m' r'
    · split at e1
      · obtain ⟨kvs, g, e1⟩ := Option.bind_eq_some_iff.mp e1
        obtain ⟨ns', e2, e3⟩ := Option.bind_eq_some_iff.mp e1
        split at e3
        case isFalse => cases e3
        rename_i h64
        cases e3
        rw [RV] at r1
        obtain ⟨a, rfl, ra⟩ := r1
        obtain ⟨cs, g1, g2⟩ := dk_sim S ra g
        refine .inr ⟨a, cs, ns, rfl, g1, by rw [REs.ks g2, intsK_eq e2], h64, fun ns' p h1 h2 hp => ?_⟩
        rw [sorted_is h1 h2]
        obtain ⟨ρ', S', m', r'⟩ := new_lst S (RVs.of_ints ns.mergeSort) hp
        exact k _ _ _ S' m' r'
      · cases e1
  · cases h
/-! ### in -/
theorem dGet_two {M : AH} {d k : AV} {o : Option AV} (h : dGet M d k = some o) : (∃ n, d = .ref n) ∧ (dGetK M d k = some o ∨ dGetT M d k = some o) := by
  unfold dGet at h
  split at h
  · rename_i n
    refine ⟨⟨n, rfl⟩, ?_⟩
    unfold dLook at h
    unfold dGetK dGetT
    dsimp only
    split at h
    · rename_i kvs g
      left
      rw [g]
      exact h
    · exact .inr h
  · cases h
theorem shapedL {M : AH} {xs : List AV} {ds : List PyData} (h : datL (dat 7 M) xs = some ds) : SeqAt.shaped (.list ds) = true := by
  have e : dat 8 M (.ro xs) = some (.list ds) := by
    show (datL (dat 7 M) xs).map PyData.list = _
    rw [h]
    rfl
  exact dat_shp e
theorem dpL {ρ : Rho} {M : AH} {H : Hp} {xs : List AV} {cs : List V} {ds : List PyData} {a : Addr} (S : Sm K cl ρ M H) (h : datL (dat 7 M) xs = some ds) (g : SqL K H a cs) (rs : RVs K ρ H xs cs) : Dp K H (.ref a) (.list ds) := by
  refine .lst g ?_
  clear g
  induction xs generalizing cs ds with
  | nil => cases h; rw [RVs] at rs; subst rs; exact .nil
  | cons x xs ih =>
    unfold datL at h
    obtain ⟨d, e1, h⟩ := Option.bind_eq_some_iff.mp h
    obtain ⟨q, e2, h⟩ := Option.bind_eq_some_iff.mp h
    cases h
    rw [RVs] at rs
    obtain ⟨c1, cr, rfl, r1, r2⟩ := rs
    exact .cons (dat_dp S _ _ _ _ e1 r1) (ih e2 r2)
def tIn3 (X : Cx) (neg : Bool) (ty td : TE) : TE := fun σ H Q => ty σ H fun y H1 => td σ H1 fun x H2 =>
  (∃ a o, x = .ref a ∧ DGet H2 a y o ∧ Q (.bl (neg ^^ o.isSome)) H2) ∨ (∃ a o, x = .ref a ∧ XGet X H2 a y o ∧ Q (.bl (neg ^^ o.isSome)) H2) ∨
  ∃ d ds, Dp X.K H2 y d ∧ Dp X.K H2 x (.list ds) ∧ SeqAt.shaped d = true ∧ SeqAt.shaped (.list ds) = true ∧ Q (.bl (neg ^^ ds.any fun z => PyData.eqv z d)) H2
theorem sim_in3 {neg : Bool} {ty td : TE} {a b : AE} (hP : cl.P = X.prog) (hw : cl.w = X.w) (ha : SimE X.K cl ty a) (hb : SimE X.K cl td b) : SimE X.K cl (tIn3 X neg ty td) (eBin (fun x y M => (inB x y M).map fun c => (.bl (neg ^^ c), M)) a b) := by
  intro ρ M H σ c v M' S R h Q k
  obtain ⟨⟨x, M1⟩, e1, h⟩ := Option.bind_eq_some_iff.mp h
  obtain ⟨⟨y, N2⟩, e2, h⟩ := Option.bind_eq_some_iff.mp h
  obtain ⟨z, e3, h⟩ := Option.map_eq_some_iff.mp h
  cases h
  refine ha S R e1 _ fun ρ1 H1 w1 S1 m1 r1 => ?_
  refine hb S1 (R.mo m1) e2 _ fun ρ2 H2 w2 S2 m2 r2 => ?_
  have r1 := r1.mo m2
  have K0 : ∀ {z}, Q (.bl (neg ^^ z)) H2 → Q (.bl (neg ^^ z)) H2 := id
  have kk : ∀ z', z' = z → Q (.bl (neg ^^ z')) H2 := fun z' e => by subst e; exact k _ _ _ S2 (m1.trans m2) (rv_bl _)
  have dict : ∀ {z}, (dGet N2 y x).map (fun o => o.isSome) = some z → (∀ z', z' = z → Q (.bl (neg ^^ z')) H2) → (∃ a o, w2 = .ref a ∧ DGet H2 a w1 o ∧ Q (.bl (neg ^^ o.isSome)) H2) ∨ (∃ a o, w2 = .ref a ∧ XGet X H2 a w1 o ∧ Q (.bl (neg ^^ o.isSome)) H2) := by
    intro z e kk
    obtain ⟨o, e4, e5⟩ := Option.map_eq_some_iff.mp e
    obtain ⟨⟨n, rfl⟩, two⟩ := dGet_two e4
    have r2' := r2
    rw [RV] at r2
    obtain ⟨ad, rfl, ra⟩ := r2
    rcases two with two | two
    · obtain ⟨o', g1, g2⟩ := dGetK_sim S2 r2' r1 two
      exact .inl ⟨ad, o', rfl, g1, kk _ (g2.isSome.trans e5)⟩
    · obtain ⟨o', g1, g2⟩ := dGetT_sim hP hw S2 r2' r1 two
      exact .inr ⟨ad, o', rfl, g1, kk _ (g2.isSome.trans e5)⟩
  dsimp only at e3
  unfold inB at e3
  cases y with
  | ro xs =>
    dsimp only at e3
    obtain ⟨d, e4, e3⟩ := Option.bind_eq_some_iff.mp e3
    obtain ⟨ds, e5, e6⟩ := Option.map_eq_some_iff.mp e3
    rw [RV] at r2
    obtain ⟨ad, cs, rfl, g, rs⟩ := r2
    exact .inr (.inr ⟨d, ds, dat_dp S2 _ _ _ _ e4 r1, dpL S2 e5 g.sql rs, dat_shp e4, shapedL e5, kk _ e6⟩)
  | ref n =>
    dsimp only at e3
    split at e3
    · rename_i xs g
      obtain ⟨d, e4, e3⟩ := Option.bind_eq_some_iff.mp e3
      obtain ⟨ds, e5, e6⟩ := Option.map_eq_some_iff.mp e3
      have el : N2.lst n = some xs := by unfold AH.lst; rw [g]
      obtain ⟨ad, cs, rfl, ra, g, rs⟩ := ref_lst S2 r2 el
      exact .inr (.inr ⟨d, ds, dat_dp S2 _ _ _ _ e4 r1, dpL S2 e5 (.inl (.inl g)) rs, dat_shp e4, shapedL e5, kk _ e6⟩)
    · rcases dict e3 kk with q | q
      · exact .inl q
      · exact .inr (.inl q)
  | _ => cases e3
theorem pc_in3 {a b : Expr} {ty td : TE} (hu : X.A.units + 65 < cLine) (ha : PE X a ty) (hb : PE X b td) : PC X .In a b (tIn3 X false ty td) := by
  refine ⟨fun pins s σ H Q I h => thn (ha.run pins s σ H _ I h) fun iv s1 ⟨y, H1, I1, ry, q1⟩ => thn (hb.run pins s1 σ H1 _ I1 q1) fun u s2 ⟨x, H2, I2, rx, q2⟩ => ?_⟩
  have hu1 : X.A.units + 1 < cLine := by omega
  simp only [Bool.false_xor] at q2
  rcases q2 with ⟨a, o, ex, g, q⟩ | ⟨a, o, ex, g, q⟩ | ⟨d, ds, g1, g2, g3, g4, q⟩
  · subst ex
    obtain rfl : u = Value.ref a := rx
    exact d_in hu1 I2 g ry fun s3 I3 => ⟨.bl o.isSome, H2, I3, rfl, q⟩
  · subst ex
    obtain rfl : u = Value.ref a := rx
    exact x_in hu1 I2 g ry fun s3 I3 => ⟨.bl o.isSome, H2, I3, rfl, q⟩
  · exact op_inD hu pins s2 σ H2 y x iv u Q I2 ry rx ⟨d, ds, g1, g2, g3, g4, q⟩
theorem pc_nin3 {a b : Expr} {ty td : TE} (hu : X.A.units + 65 < cLine) (ha : PE X a ty) (hb : PE X b td) : PC X .NotIn a b (tIn3 X true ty td) := by
  refine ⟨fun pins s σ H Q I h => thn (ha.run pins s σ H _ I h) fun iv s1 ⟨y, H1, I1, ry, q1⟩ => thn (hb.run pins s1 σ H1 _ I1 q1) fun u s2 ⟨x, H2, I2, rx, q2⟩ => ?_⟩
  have hu1 : X.A.units + 1 < cLine := by omega
  simp only [Bool.true_xor] at q2
  rcases q2 with ⟨a, o, ex, g, q⟩ | ⟨a, o, ex, g, q⟩ | ⟨d, ds, g1, g2, g3, g4, q⟩
  · subst ex
    obtain rfl : u = Value.ref a := rx
    exact d_notIn hu1 I2 g ry fun s3 I3 => ⟨.bl (!o.isSome), H2, I3, rfl, q⟩
  · subst ex
    obtain rfl : u = Value.ref a := rx
    exact x_notIn hu1 I2 g ry fun s3 I3 => ⟨.bl (!o.isSome), H2, I3, rfl, q⟩
  · exact op_notInD hu pins s2 σ H2 y x iv u Q I2 ry rx ⟨d, ds, g1, g2, g3, g4, q⟩
/-! ### a op b op c -/
def eChain (f g : A2) (a b c : AE) : AE := fun σ M => (a σ M).bind fun p => (b σ p.2).bind fun q => (f p.1 q.1 q.2).bind fun r => match r.1 with
  | .bl k => if k = true then (c σ r.2).bind fun u => g q.1 u.1 u.2 else some (.bl false, r.2)
  | _ => none
theorem sim_chain {r r' : R2} {f g : A2} {ta tb tc : TE} {a b c : AE} (hf : Sim2 K cl r f) (hg : Sim2 K cl r' g) (ha : SimE K cl ta a) (hb : SimE K cl tb b) (hc : SimE K cl tc c) : SimE K cl (tChain r r' ta tb tc) (eChain f g a b c) := by
  intro ρ M H σ s v M' S R h Q k
  obtain ⟨⟨x, M1⟩, e1, h⟩ := Option.bind_eq_some_iff.mp h
  obtain ⟨⟨y, N2⟩, e2, h⟩ := Option.bind_eq_some_iff.mp h
  obtain ⟨⟨z, M3⟩, e3, h⟩ := Option.bind_eq_some_iff.mp h
  refine ha S R e1 _ fun ρ1 H1 w1 S1 m1 r1 => ?_
  refine hb S1 (R.mo m1) e2 _ fun ρ2 H2 w2 S2 m2 r2 => ?_
  refine hf S2 (r1.mo m2) r2 e3 _ fun ρ3 H3 w3 S3 m3 r3 => ?_
  cases z with
  | bl t =>
    rw [RV] at r3
    refine ⟨t, r3, ?_⟩
    cases t with
    | false => cases h; rw [if_neg Bool.false_ne_true]; exact k _ _ _ S3 ((m1.trans m2).trans m3) (rv_bl _)
    | true =>
      rw [if_pos rfl]
      obtain ⟨⟨u, M4⟩, e4, h⟩ := Option.bind_eq_some_iff.mp h
      refine hc S3 (R.mo ((m1.trans m2).trans m3)) e4 _ fun ρ4 H4 w4 S4 m4 r4 => ?_
      exact hg S4 (r2.mo (m3.trans m4)) r4 h _ fun ρ5 H5 w5 S5 m5 r5 => k _ _ _ S5 ((((m1.trans m2).trans m3).trans m4).trans m5) r5
  | _ => cases h
/-! ### displays of dicts -/
def RPs (K : PySem.W.Frag) (ρ : Rho) (H : Hp) : List (AV × AV) → List (V × V) → Prop := Paired fun p q => RV K ρ H p.1 q.1 ∧ RV K ρ H p.2 q.2
theorem RPs.mo {ρ ρ' : Rho} {H H' : Hp} {xs : List (AV × AV)} {cs : List (V × V)} (m : Mo ρ H ρ' H') (h : RPs K ρ H xs cs) : RPs K ρ' H' xs cs := Paired.mapP h fun _ _ h => ⟨h.1.mo m, h.2.mo m⟩
def pairsGo : List (AE × AE) → ASt → AH → Option (List (AV × AV) × AH)
  | [], _, M => some ([], M)
  | (a, b) :: r, σ, M => (a σ M).bind fun p => (b σ p.2).bind fun q => (pairsGo r σ q.2).bind fun u => some ((p.1, q.1) :: u.1, u.2)
def keysK : List (AV × AV) → Option (List (AK × AV))
  | [] => some []
  | (k, v) :: r => (AV.key k).bind fun k => (keysK r).bind fun u => some ((k, v) :: u)
def keysT : List (AV × AV) → Option (List (List AK × AV))
  | [] => some []
  | (k, v) :: r => (keyT k).bind fun k => (keysT r).bind fun u => some ((k, v) :: u)
def merM {κ : Type} [DecidableEq κ] (acc es : List (κ × AV)) : List (κ × AV) := es.foldl (fun acc kv => putM acc kv.1 kv.2) acc
def isDK : Option AO → Bool
  | some (.dK []) => true
  | _ => false
def isDT : Option AO → Bool
  | some (.dT []) => true
  | _ => false
def eDispK (prs : List (AE × AE)) : AE := fun σ M => (pairsGo prs σ (M.new (.dK []))).bind fun p => (keysK p.1).bind fun kvs => if isDK (p.2.get M.next) = true ∧ kvs.length ≤ 15 then some (.ref M.next, p.2.set M.next (.dK (merM [] kvs))) else none
def eDispT (prs : List (AE × AE)) : AE := fun σ M => (pairsGo prs σ (M.new (.dT []))).bind fun p => (keysT p.1).bind fun kvs => if isDT (p.2.get M.next) = true ∧ kvs.length ≤ 15 then some (.ref M.next, p.2.set M.next (.dT (merM [] kvs))) else none
theorem isDK_eq {o : Option AO} (h : isDK o = true) : o = some (.dK []) := by
  unfold isDK at h
  split at h
  · rfl
  · cases h
theorem isDT_eq {o : Option AO} (h : isDT o = true) : o = some (.dT []) := by
  unfold isDT at h
  split at h
  · rfl
  · cases h
inductive SimPs (K : PySem.W.Frag) (cl : Cle) : List (TE × TE) → List (AE × AE) → Prop where
  | nil : SimPs K cl [] []
  | cons {t u : TE} {a b : AE} {trs : List (TE × TE)} {prs : List (AE × AE)} : SimE K cl t a → SimE K cl u b → SimPs K cl trs prs → SimPs K cl ((t, u) :: trs) ((a, b) :: prs)
theorem simps_go {trs : List (TE × TE)} {prs : List (AE × AE)} (h : SimPs K cl trs prs) : ∀ ⦃ρ M H σ c ps M'⦄, Sm K cl ρ M H → RS K ρ H σ c → pairsGo prs σ M = some (ps, M') → ∀ Q : List (V × V) → Hp → Prop, (∀ ρ' H' w, Sm K cl ρ' M' H' → Mo ρ H ρ' H' → RPs K ρ' H' ps w → Q w H') → tPairs trs c H Q := by
  induction h with
  | nil =>
    intro ρ M H σ c ps M' S R h Q k
    cases h
    exact k _ _ _ S (Mo.refl _ _) .nil
  | cons h1 h2 _ ih =>
    intro ρ M H σ c ps M' S R h Q k
    obtain ⟨⟨x, M1⟩, e1, h⟩ := Option.bind_eq_some_iff.mp h
    obtain ⟨⟨y, N2⟩, e2, h⟩ := Option.bind_eq_some_iff.mp h
    obtain ⟨⟨z, M3⟩, e3, h⟩ := Option.bind_eq_some_iff.mp h
    cases h
    refine h1 S R e1 _ fun ρ1 H1 w1 S1 m1 r1 => ?_
    refine h2 S1 (R.mo m1) e2 _ fun ρ2 H2 w2 S2 m2 r2 => ?_
    refine ih S2 (R.mo (m1.trans m2)) e3 _ fun ρ3 H3 w3 S3 m3 r3 => ?_
    exact k _ _ _ S3 ((m1.trans m2).trans m3) (.cons ⟨r1.mo (m2.trans m3), r2.mo m3⟩ r3)
theorem keysK_rv {ρ : Rho} {H : Hp} : ∀ {ps : List (AV × AV)} {w : List (V × V)} {kvs : List (AK × AV)}, RPs K ρ H ps w → keysK ps = some kvs → ∃ cs : List (Key × V), w = cs.map (fun kv => (kV kv.1, kv.2)) ∧ REs AK.k K ρ H kvs cs
  | [], _, _, .nil, h => by cases h; exact ⟨[], rfl, .nil⟩
  | (k, v) :: ps, (c, d) :: w, _, .cons r t, h => by
    unfold keysK at h
    obtain ⟨k', e1, h⟩ := Option.bind_eq_some_iff.mp h
    obtain ⟨u, e2, h⟩ := Option.bind_eq_some_iff.mp h
    cases h
    obtain ⟨cs, rfl, q⟩ := keysK_rv t e2
    have e : c = kV k'.k := key_rv r.1 e1
    subst e
    exact ⟨(k'.k, d) :: cs, rfl, .cons ⟨rfl, r.2⟩ q⟩
theorem keysT_rv {ρ : Rho} {H : Hp} : ∀ {ps : List (AV × AV)} {w : List (V × V)} {kvs : List (List AK × AV)}, RPs K ρ H ps w → keysT ps = some kvs → ∃ cs : List XE, w = cs.map (fun x => (V.ref x.2.1, x.2.2)) ∧ RX K ρ H kvs cs
  | [], _, _, .nil, h => by cases h; exact ⟨[], rfl, .nil⟩
  | (k, v) :: ps, (c, d) :: w, _, .cons r t, h => by
    unfold keysT at h
    obtain ⟨k', e1, h⟩ := Option.bind_eq_some_iff.mp h
    obtain ⟨u, e2, h⟩ := Option.bind_eq_some_iff.mp h
    cases h
    obtain ⟨cs, rfl, q⟩ := keysT_rv t e2
    obtain ⟨b, e, kb⟩ := keyT_rv r.1 e1
    have e : c = .ref b := e
    subst e
    exact ⟨(k'.map AK.k, b, d) :: cs, rfl, .cons ⟨rfl, kb, r.2⟩ q⟩
theorem REs.mer {ρ : Rho} {H : Hp} : ∀ {es : List (AK × AV)} {fs : List (Key × V)} {acc : List (AK × AV)} {bcc : List (Key × V)}, REs AK.k K ρ H es fs → REs AK.k K ρ H acc bcc → REs AK.k K ρ H (merM acc es) (mergeK bcc fs)
  | _, _, _, _, .nil, h => h
  | _, _, acc, bcc, .cons (a := p) (b := q) h t, r => by
    obtain ⟨q1, q2⟩ := q
    obtain ⟨h1, h2⟩ := h
    have h1 : q1 = p.1.k := h1
    subst h1
    show REs AK.k K ρ H (merM (Sy.putM acc p.1 p.2) _) (mergeK (putK bcc p.1.k q2) _)
    exact REs.mer t (REs.putM (fun _ _ => AK.k_inj) h2 r)
theorem RX.mer {ρ : Rho} {H : Hp} : ∀ {es : List (List AK × AV)} {fs : List XE} {acc : List (List AK × AV)} {bcc : List XE}, RX K ρ H es fs → RX K ρ H acc bcc → RX K ρ H (merM acc es) (mergeX bcc fs)
  | _, _, _, _, .nil, h => h
  | _, _, acc, bcc, .cons (a := p) (b := q) h t, r => by
    obtain ⟨q1, q2, q3⟩ := q
    obtain ⟨h1, h2, h3⟩ := h
    have h1 : q1 = p.1.map AK.k := h1
    subst h1
    show RX K ρ H (merM (Sy.putM acc p.1 p.2) _) (mergeX (putX bcc (p.1.map AK.k) q2 q3) _)
    exact RX.mer t (RX.put h3 h2 r)
theorem sim_dispK {trs : List (TE × TE)} {prs : List (AE × AE)} (h : SimPs K cl trs prs) : SimE K cl (tDisp trs) (eDispK prs) := by
  intro ρ M H σ c v M' S R h' Q k
  obtain ⟨⟨ps, M1⟩, e1, h'⟩ := Option.bind_eq_some_iff.mp h'
  obtain ⟨kvs, e2, h'⟩ := Option.bind_eq_some_iff.mp h'
  split at h'
  case isFalse => cases h'
  rename_i hb
  cases h'
  intro p hp
  obtain ⟨S0, m0, at0⟩ := S.new (o := .dK []) (ho := .dK []) hp ⟨[], upd_same, .nil⟩
  refine simps_go h S0 (R.mo m0) e1 _ fun ρ1 H1 w S1 m1 r1 => ?_
  have g := isDK_eq hb.1
  have at1 := m1.le _ _ at0
  obtain ⟨a', ra', cs0, g1, g2⟩ := S1.obj g
  rw [at1] at ra'
  cases ra'
  cases g2
  obtain ⟨cs, rfl, rc⟩ := keysK_rv r1 e2
  have hi : ∀ u, H1 p = some u → ¬ Imm u := fun u z => by rw [g1] at z; cases z; exact fun z => z
  have mo : Mo ρ1 H1 ρ1 (upd H1 p (.dK (mergeK [] cs))) := mo_upd hi
  obtain ⟨S', m⟩ := S1.upd (o' := .dK (merM [] kvs)) (ho := .dK (mergeK [] cs)) g at1 ⟨_, upd_same, REs.mo mo (REs.mer rc .nil)⟩
  exact ⟨g1, cs, rfl, by rw [← Paired.length rc]; exact hb.2, k _ _ _ S' ((m0.trans m1).trans m) (by rw [RV]; exact ⟨p, rfl, at1⟩)⟩
theorem sim_dispT {trs : List (TE × TE)} {prs : List (AE × AE)} (hP : cl.P = X.prog) (hw : cl.w = X.w) (h : SimPs X.K cl trs prs) : SimE X.K cl (tXDisp X trs) (eDispT prs) := by
  intro ρ M H σ c v M' S R h' Q k
  obtain ⟨⟨ps, M1⟩, e1, h'⟩ := Option.bind_eq_some_iff.mp h'
  obtain ⟨kvs, e2, h'⟩ := Option.bind_eq_some_iff.mp h'
  split at h'
  case isFalse => cases h'
  rename_i hb
  cases h'
  intro p hp
  rw [← hP, ← hw]
  obtain ⟨S0, m0, at0⟩ := S.new (o := .dT []) (ho := xdO cl.P cl.w p []) hp ⟨[], upd_same, .nil⟩
  refine simps_go h S0 (R.mo m0) e1 _ fun ρ1 H1 w S1 m1 r1 => ?_
  have g := isDT_eq hb.1
  have at1 := m1.le _ _ at0
  obtain ⟨a', ra', cs0, g1, g2⟩ := S1.obj g
  rw [at1] at ra'
  cases ra'
  cases g2
  obtain ⟨cs, rfl, rc⟩ := keysT_rv r1 e2
  have hi : ∀ u, H1 p = some u → ¬ Imm u := fun u z => by rw [g1] at z; cases z; exact fun z => z
  have mo : Mo ρ1 H1 ρ1 (upd H1 p (xdO cl.P cl.w p (mergeX [] cs))) := mo_upd hi
  obtain ⟨S', m⟩ := S1.upd (o' := .dT (merM [] kvs)) (ho := xdO cl.P cl.w p (mergeX [] cs)) g at1 ⟨_, upd_same, RX.mo mo (RX.mer rc .nil)⟩
  exact ⟨g1, cs, rfl, rc.keys, by rw [← Paired.length rc]; exact hb.2, k _ _ _ S' ((m0.trans m1).trans m) (by rw [RV]; exact ⟨p, rfl, at1⟩)⟩
/-! ### for k in d -/
def AK.av : AK → AV
  | .i n => .int n
  | .s x => .str x
theorem RV.av {ρ : Rho} {H : Hp} (k : AK) : RV K ρ H k.av (kV k.k) := by cases k <;> rw [AK.av, RV] <;> rfl
theorem RVs.avs {ρ : Rho} {H : Hp} : ∀ ks : List AK, RVs K ρ H (ks.map AK.av) ((ks.map AK.k).map kV)
  | [] => RVs.nil
  | k :: ks => RVs.cons (RV.av k) (RVs.avs ks)
def itLK (i : Nat) : AI := fun σ M => match σ[i]? with
  | some (some (.ref n)) => match M.get n with
    | some (.lK kvs) => some (⟨kvs.map fun kv => kv.1.av, fun _ => true⟩, M)
    | _ => none
  | _ => none
def itLT (i : Nat) : AI := fun σ M => match σ[i]? with
  | some (some (.ref n)) => match M.get n with
    | some (.lT kvs) => some (⟨kvs.map fun kv => .tup (kv.1.map AK.av), fun _ => true⟩, M)
    | _ => none
  | _ => none
def sForD (i : Nat) (g : AG) (b : AS) : AS := fun σ M => match σ[i]? with
  | some (some (.ref n)) => match M.get n with
    | some (.dK kvs) => (sFor (itLK i) g b σ (M.set n (.lK kvs))).bind fun p => some (p.1, p.2.1, p.2.2.set n (.dK kvs))
    | some (.dT kvs) => (sFor (itLT i) g b σ (M.set n (.lT kvs))).bind fun p => some (p.1, p.2.1, p.2.2.set n (.dT kvs))
    | _ => none
  | _ => none
theorem simi_lk {i : Nat} : SimI K cl (iKeys (tVar i)) (itLK i) := by
  intro ρ M H σ c I M' S R h Q k
  unfold itLK at h
  split at h
  · rename_i n e
    split at h
    · rename_i kvs g
      cases h
      obtain ⟨y, e2, r⟩ := R.get e
      rw [RV] at r
      obtain ⟨a, rfl, ra⟩ := r
      obtain ⟨a', ra', o, cs, g1, g2⟩ := S.obj g
      rw [ra] at ra'
      cases ra'
      refine ⟨.ref a, e2, a, o, rfl, .inl ⟨cs, g1, k _ _ _ S (Mo.refl _ _) fun ρ1 M1 H1 j S1 m1 _ => ⟨fun q => ⟨m1.keep _ _ trivial g1, ?_⟩, fun x q => ?_⟩⟩⟩
      · have := List.getElem?_eq_none_iff.mp q
        rw [List.length_map] at this
        rw [← Paired.length g2]
        exact this
      · have q' : (kvs[j]?).map (fun kv => kv.1.av) = some x := by rw [← List.getElem?_map]; exact q
        obtain ⟨kv, q1, q2⟩ := Option.map_eq_some_iff.mp q'
        subst q2
        obtain ⟨d, q3, q4, _⟩ := paired_get g2 q1
        refine ⟨⟨m1.keep _ _ trivial g1, (List.getElem?_eq_some_iff.mp q3).1⟩, fun y H2 hy => ?_⟩
        obtain ⟨rfl, k', v', q5, q6⟩ := hy
        rw [q3] at q5
        cases q5
        refine ⟨ρ1, S1, Mo.refl _ _, ?_⟩
        subst q6
        have q4 : k' = kv.1.k := q4
        subst q4
        exact RV.av _
    · cases h
  · cases h
theorem simi_lt {i : Nat} (hP : cl.P = X.prog) (hw : cl.w = X.w) : SimI X.K cl (iKeysX X (tVar i)) (itLT i) := by
  intro ρ M H σ c I M' S R h Q k
  unfold itLT at h
  split at h
  · rename_i n e
    split at h
    · rename_i kvs g
      cases h
      obtain ⟨y, e2, r⟩ := R.get e
      rw [RV] at r
      obtain ⟨a, rfl, ra⟩ := r
      obtain ⟨a', ra', o, cs, g1, g2⟩ := S.obj g
      rw [ra] at ra'
      cases ra'
      rw [hP, hw] at g1
      refine ⟨.ref a, e2, a, o, cs, rfl, g1, k _ _ _ S (Mo.refl _ _) fun ρ1 M1 H1 j S1 m1 _ => ⟨fun q => ⟨m1.keep _ _ trivial g1, ?_⟩, fun x q => ?_⟩⟩
      · have := List.getElem?_eq_none_iff.mp q
        rw [List.length_map] at this
        rw [← Paired.length g2]
        exact this
      · have q' : (kvs[j]?).map (fun kv => AV.tup (kv.1.map AK.av)) = some x := by rw [← List.getElem?_map]; exact q
        obtain ⟨kv, q1, q2⟩ := Option.map_eq_some_iff.mp q'
        subst q2
        obtain ⟨d, q3, q4, q5, _⟩ := paired_get g2 q1
        refine ⟨⟨m1.keep _ _ trivial g1, (List.getElem?_eq_some_iff.mp q3).1⟩, fun y H2 hy => ?_⟩
        obtain ⟨rfl, k', b', v', q6, q7⟩ := hy
        rw [q3] at q6
        cases q6
        refine ⟨ρ1, S1, Mo.refl _ _, ?_⟩
        subst q7
        have q4 : k' = kv.1.map AK.k := q4
        subst q4
        rw [RV]
        exact ⟨b', _, rfl, KeyAt.mo m1 q5, RVs.avs _⟩
    · cases h
  · cases h
/-- the end of a walk: the dict is let go -/
theorem unlock_end {ρ ρ' : Rho} {M' : AH} {H H' : Hp} {n : Nat} {a : Addr} {u : HO} {o : Obj} {o' : AO} {f : Fl} {σ' : ASt} {c' : L2.St} {D : Ends} (hu : H a = some u) (hm : ¬ Imm u) (hn : ∀ xs, u ≠ .lst xs) (ra : ρ n = some a)
    (S' : Sm K cl ρ' M' H') (m : Mo ρ (upd H a (.frz o u)) ρ' H') (R' : RS K ρ' H' σ' c') (new : ∀ {H2}, Mo0 ρ H ρ' H2 → H2 a = some u → RO K cl ρ' H2 a o')
    (k : ∀ ρ' H' c', Sm K cl ρ' (M'.set n o') H' → Mo ρ H ρ' H' → RS K ρ' H' σ' c' → RF K ρ' H' D f c') :
    RF K ρ' H' ⟨fun σ' H' => H' a = some (.frz o u) ∧ D.nx σ' (upd H' a u), fun v H' => H' a = some (.frz o u) ∧ D.rt v (upd H' a u), fun σ' H' => H' a = some (.frz o u) ∧ D.bk σ' (upd H' a u), fun σ' H' => H' a = some (.frz o u) ∧ D.ct σ' (upd H' a u)⟩ f c' := by
  have ea : H' a = some (.frz o u) := m.keep _ _ trivial upd_same
  have mo : Mo ρ H ρ' (upd H' a u) := ⟨m.le, fun b w i e => by
    by_cases q : b = a
    · subst q; rw [hu] at e; cases e; exact absurd i hm
    · rw [upd_ne q]; exact m.keep _ _ i (by rw [upd_ne q]; exact e)⟩
  have w0 : Mo0 ρ' H' ρ' (upd H' a u) := ⟨fun _ _ h => h, fun b w i e => by
    by_cases q : b = a
    · subst q
      rw [ea] at e
      cases e
      cases u with
      | lst xs => exact absurd rfl (hn xs)
      | _ => exact i.elim
    · rw [upd_ne q]; exact e⟩
  have g : ∀ {H2}, Mo0 ρ' H' ρ' H2 → H2 a = some u → RO K cl ρ' H2 a o' := fun {H2} z e2 => new ⟨fun n b e => m.le n b e, fun b w i e => by
    by_cases q : b = a
    · subst q; rw [hu] at e; cases e; exact absurd (Imm0.imm i) hm
    · exact z.keep _ _ i (m.keep _ _ (Imm0.imm i) (by rw [upd_ne q]; exact e))⟩ e2
  have S3 : Sm K cl ρ' (M'.set n o') (upd H' a u) := by
    have mo2 : Mo0 ρ' H' ρ' (upd H' a u) := w0
    refine ⟨S'.inj, S'.dom, fun {m2 w} e => ?_, fun {m2 b} e => ?_, tab_upd S'.tab (by rw [ea]; exact fun ps z => nomatch z)⟩
    · by_cases q : m2 = n
      · subst q
        have e' : some o' = some w := by simpa [AH.set] using e
        cases e'
        exact ⟨a, m.le _ _ ra, g w0 upd_same⟩
      · have e' : M'.get m2 = some w := by simpa [AH.set, q] using e
        obtain ⟨b, rb, x⟩ := S'.obj e'
        have nb : b ≠ a := fun z => q (S'.inj rb (z ▸ m.le _ _ ra))
        exact ⟨b, rb, x.mo0 mo2 (upd_ne nb)⟩
    · by_cases q : b = a
      · subst q; rw [upd_same]; exact fun z => nomatch z
      · rw [upd_ne q]; exact S'.rng e
  have kk := k _ _ c' S3 mo (R'.mo0 w0)
  cases f with
  | nx => exact ⟨ea, kk⟩
  | bk => exact ⟨ea, kk⟩
  | ct => exact ⟨ea, kk⟩
  | rt v => exact fun w r => ⟨ea, kk w (r.mo0 w0)⟩
theorem sim_forD {i : Nat} {g : TG} {ag : AG} {tb : TS} {b : AS} (hP : cl.P = X.prog) (hw : cl.w = X.w) (hg : SimG X.K cl g ag) (hb : SimS X.K cl tb b) :
    SimS X.K cl (fun D σ H => tLock (tFor (iKeys (tVar i)) g tb) D σ H ∨ tLock (tFor (iKeysX X (tVar i)) g tb) D σ H) (sForD i ag b) := by
  intro ρ M H σ c f σ' M' S R h D k
  unfold sForD at h
  split at h
  · rename_i n e
    split at h
    · rename_i kvs gg
      obtain ⟨⟨f1, σ1, M1⟩, e1, h⟩ := Option.bind_eq_some_iff.mp h
      cases h
      obtain ⟨y, e2, r⟩ := R.get e
      rw [RV] at r
      obtain ⟨a, rfl, ra⟩ := r
      obtain ⟨a', ra', cs, g1, g2⟩ := S.obj gg
      rw [ra] at ra'
      cases ra'
      refine .inl ⟨a, .dK cs, g1, trivial, fun od => ?_⟩
      have hi : ∀ u, H a = some u → ¬ Imm u := fun u z => by rw [g1] at z; cases z; exact fun z => z
      have mo : Mo ρ H ρ (upd H a (.frz od (.dK cs))) := mo_upd hi
      obtain ⟨S1, m1⟩ := S.upd (o' := .lK kvs) (ho := .frz od (.dK cs)) gg ra ⟨od, cs, upd_same, g2.mo mo⟩
      refine sim_for simi_lk hg hb S1 (R.mo m1) e1 _ fun ρ2 H2 c2 S2 m2 R2 => ?_
      exact unlock_end (o' := .dK kvs) g1 (hi _ g1) (fun xs z => nomatch z) ra S2 m2 R2 (fun z q => ⟨cs, q, g2.mo0 z⟩) k
    · rename_i kvs gg
      obtain ⟨⟨f1, σ1, M1⟩, e1, h⟩ := Option.bind_eq_some_iff.mp h
      cases h
      obtain ⟨y, e2, r⟩ := R.get e
      rw [RV] at r
      obtain ⟨a, rfl, ra⟩ := r
      obtain ⟨a', ra', cs, g1, g2⟩ := S.obj gg
      rw [ra] at ra'
      cases ra'
      refine .inr ⟨a, xdO cl.P cl.w a cs, g1, trivial, fun od => ?_⟩
      have hi : ∀ u, H a = some u → ¬ Imm u := fun u z => by rw [g1] at z; cases z; exact fun z => z
      have mo : Mo ρ H ρ (upd H a (.frz od (xdO cl.P cl.w a cs))) := mo_upd hi
      obtain ⟨S1, m1⟩ := S.upd (o' := .lT kvs) (ho := .frz od (xdO cl.P cl.w a cs)) gg ra ⟨od, cs, upd_same, g2.mo mo⟩
      refine sim_for (simi_lt hP hw) hg hb S1 (R.mo m1) e1 _ fun ρ2 H2 c2 S2 m2 R2 => ?_
      exact unlock_end (o' := .dT kvs) g1 (hi _ g1) (fun xs z => nomatch z) ra S2 m2 R2 (fun z q => ⟨cs, q, g2.mo0 z⟩) k
    · cases h
  · cases h
end
/-! ### judgements -/
theorem hu65_of {k : Nat} {A : Around} (r : Room k A) : A.units + 65 < cLine := by have := r.un; omega
section
variable {X : Cx} {cl : Cle} {pos pos' apos cpos p : Pos} {a b c e o : Expr} {es : List Expr} {ea eb ec : AE} {qa qb qc : AT} {ra : AA} {sa sb : AS} {st : Stmt} {sts sts' : List Stmt}
def PGsa (X : Cx) (cl : Cle) (es : List Expr) (gs : List AG) : Prop := ∃ u, PGs X es u ∧ SimGs X.K cl u gs
theorem gs_nil : PGsa X cl [] [] := ⟨_, pgs_nil, .nil⟩
theorem gs_cons {g : AG} {gs : List AG} (h : PGa X cl e g) (hr : PGsa X cl es gs) (hs : (assignEach (e :: es) X.env).map (·.2) = assign e X.env :: (assignEach es X.env).map (·.2) := by rfl) : PGsa X cl (e :: es) (g :: gs) := by
  obtain ⟨t, a1, a2⟩ := h
  obtain ⟨u, b1, b2⟩ := hr
  exact ⟨_, pgs_cons a1 b1 hs, .cons a2 b2⟩
theorem ag_tup {gs : List AG} {j : Nat} (hc : X.calm = true) (h : PGsa X cl es gs) (hn : (assignEach es X.env).length = gs.length := by rfl) (hst : (assignEach es X.env).findIdx? (·.1) = none := by rfl) : PGa X cl (.Tuple es j pos) (aTup gs) := by
  obtain ⟨u, b1, b2⟩ := h
  exact ⟨_, pg_tup hc b1 hn hst, sim_gtup b2⟩
theorem as_asg {tg : Expr} {ag : AG} (h : PEa X cl e ea) (hg : PGa X cl tg ag) (hs : swapsWithSole [tg] e pos.line X.env = pure false := by rfl) (hw : swappedStores [tg] e X.env = pure none := by rfl) (h1 : (assignEach [tg] X.env).map (·.2) = [assign tg X.env] := by rfl) :
    PSa X cl (.Assign [tg] e pos) (sAsg ea ag) := by
  obtain ⟨t, a1, a2⟩ := h
  obtain ⟨u, b1, b2⟩ := hg
  exact ⟨_, ps_asg a1 b1 hs hw h1, sim_asg a2 b2⟩
theorem ae_bone {op : BoolOp} (h : PEa X cl a ea) : PEa X cl (.BoolOp op [a] pos) ea := by
  obtain ⟨t, a1, a2⟩ := h
  exact ⟨_, pe_one a1, a2⟩
theorem ae_and (ha : PEa X cl a ea) (hb : PEa X cl (.BoolOp .And (b :: es) pos) eb) : PEa X cl (.BoolOp .And (a :: b :: es) pos) (eAndV ea eb) := by
  obtain ⟨t, a1, a2⟩ := ha
  obtain ⟨u, b1, b2⟩ := hb
  exact ⟨_, pe_and a1 b1, sim_andV a2 b2⟩
theorem ae_or (ha : PEa X cl a ea) (hb : PEa X cl (.BoolOp .Or (b :: es) pos) eb) : PEa X cl (.BoolOp .Or (a :: b :: es) pos) (eOrV ea eb) := by
  obtain ⟨t, a1, a2⟩ := ha
  obtain ⟨u, b1, b2⟩ := hb
  exact ⟨_, pe_or a1 b1, sim_orV a2 b2⟩
theorem ae_not (ha : PEa X cl a ea) : PEa X cl (.UnaryOp .Not a pos) (eUn fNotV ea) := by
  obtain ⟨t, a1, a2⟩ := ha
  exact ⟨_, pe_not a1, sim_notV a2⟩
theorem ae_neg (ha : PEa X cl a ea) : PEa X cl (.UnaryOp .USub a pos) (eUn fNeg ea) := by
  obtain ⟨t, a1, a2⟩ := ha
  exact ⟨_, pe_un un_neg a1, sim_un sim_neg a2⟩
theorem as_while {body : List Stmt} (hp : PassesOwn (model X.prog X.w) X.A X.env X.xe) (hc : PTa X cl c qc) (hb : PSsa X cl body sb) : PSa X cl (.While c body [] pos) (sWhile qc sb) := by
  obtain ⟨t, a1, a2⟩ := hc
  obtain ⟨u, b1, b2⟩ := hb
  exact ⟨_, ps_while hp a1 b1, sim_while a2 b2⟩
theorem as_break : PSa X cl (.Break pos) sBreak := ⟨_, ps_break, sim_break⟩
theorem as_cont : PSa X cl (.Continue pos) sCont := ⟨_, ps_continue, sim_cont⟩
theorem as_pass : PSa X cl (.Pass pos) sNext := ⟨_, ps_pass, sim_next⟩
theorem as_retN : PSa X cl (.Return none pos) sRetN := ⟨_, ps_retN, sim_retN⟩
def IpA (X : Cx) (cl : Cle) (op : Operator) (f : A2) : Prop := ∃ t, PIp X op t ∧ Sim2 X.K cl t f
theorem ip_addA : IpA X cl .Add oAddI := ⟨_, ip_add, sim_ipAdd⟩
theorem ip_subA : IpA X cl .Sub oSub := ⟨_, ip_sub, sim_ipSub⟩
theorem as_aug (i : Nat) {x : Str} {op : Operator} {f : A2} (hN : X.N.Nodup) (hf : IpA X cl op f) (h : PEa X cl e ea) (hi : X.N[i]? = some x := by rfl) (hx : Loc X.env.scope x := by first | exact Or.inl rfl | exact Or.inr rfl) (hf : X.fn x = true ∨ X.env.scope.names.lookup x = some .local := by first | exact .inl rfl | exact .inr rfl | assumption) :
    PSa X cl (.AugAssign (.Name x pos') op e pos) (sAug i f ea) := by
  obtain ⟨r, o1, o2⟩ := ‹IpA X cl op f›
  obtain ⟨t, a1, a2⟩ := h
  exact ⟨_, ps_aug hN hi hx a1 o1 hf, sim_aug a2 o2⟩
theorem ae_in (hu : X.A.units + 65 < cLine) (ha : PEa X cl a ea) (hb : PEa X cl b eb) (hm : behindInMarks .In b = false := by with_unfolding_all rfl) (hP : cl.P = X.prog := by rfl) (hw : cl.w = X.w := by rfl) : PEa X cl (.Compare a [.In] [b] pos) (eBin oInB ea eb) := by
  obtain ⟨t, a1, a2⟩ := ha
  obtain ⟨u, b1, b2⟩ := hb
  exact ⟨_, pe_cmp (pc_in3 hu a1 b1) hm, by rw [← oInX_f]; exact sim_in3 hP hw a2 b2⟩
theorem ae_nin (hu : X.A.units + 65 < cLine) (ha : PEa X cl a ea) (hb : PEa X cl b eb) (hm : behindInMarks .NotIn b = false := by with_unfolding_all rfl) (hP : cl.P = X.prog := by rfl) (hw : cl.w = X.w := by rfl) : PEa X cl (.Compare a [.NotIn] [b] pos) (eBin oNinB ea eb) := by
  obtain ⟨t, a1, a2⟩ := ha
  obtain ⟨u, b1, b2⟩ := hb
  exact ⟨_, pe_cmp (pc_nin3 hu a1 b1) hm, by rw [← oInX_t]; exact sim_in3 hP hw a2 b2⟩
theorem at_in (hu : X.A.units + 65 < cLine) (ha : PEa X cl a ea) (hb : PEa X cl b eb) (hm : behindInMarks .In b = false := by with_unfolding_all rfl) (hP : cl.P = X.prog := by rfl) (hw : cl.w = X.w := by rfl) : PTa X cl (.Compare a [.In] [b] pos) (qBl (eBin oInB ea eb)) := by
  obtain ⟨t, a1, a2⟩ := ha
  obtain ⟨u, b1, b2⟩ := hb
  exact ⟨_, pt_cmp (pc_in3 hu a1 b1) hm, sim_test (by rw [← oInX_f]; exact sim_in3 hP hw a2 b2)⟩
theorem at_nin (hu : X.A.units + 65 < cLine) (ha : PEa X cl a ea) (hb : PEa X cl b eb) (hm : behindInMarks .NotIn b = false := by with_unfolding_all rfl) (hP : cl.P = X.prog := by rfl) (hw : cl.w = X.w := by rfl) : PTa X cl (.Compare a [.NotIn] [b] pos) (qBl (eBin oNinB ea eb)) := by
  obtain ⟨t, a1, a2⟩ := ha
  obtain ⟨u, b1, b2⟩ := hb
  exact ⟨_, pt_cmp (pc_nin3 hu a1 b1) hm, sim_test (by rw [← oInX_t]; exact sim_in3 hP hw a2 b2)⟩
theorem ae_chain {op op' : CmpOp} {f g : A2} (h : CmpA X cl op f) (h' : CmpA X cl op' g) (ha : PEa X cl a ea) (hb : PEa X cl b eb) (hc : PEa X cl c ec) (hm : lastMarks [op, op'] [b, c] = false := by with_unfolding_all rfl) : PEa X cl (.Compare a [op, op'] [b, c] pos) (eChain f g ea eb ec) := by
  obtain ⟨r, h1, h2⟩ := h
  obtain ⟨r', h1', h2'⟩ := h'
  obtain ⟨ta, a1, a2⟩ := ha
  obtain ⟨tb, b1, b2⟩ := hb
  obtain ⟨tc, c1, c2⟩ := hc
  exact ⟨_, pe_chain h1 h1' a1 b1 c1 hm, sim_chain h2 h2' a2 b2 c2⟩
theorem at_chain {op op' : CmpOp} {f g : A2} (h : CmpA X cl op f) (h' : CmpA X cl op' g) (ha : PEa X cl a ea) (hb : PEa X cl b eb) (hc : PEa X cl c ec) (hm : lastMarks [op, op'] [b, c] = false := by with_unfolding_all rfl) : PTa X cl (.Compare a [op, op'] [b, c] pos) (qBl (eChain f g ea eb ec)) := by
  obtain ⟨r, h1, h2⟩ := h
  obtain ⟨r', h1', h2'⟩ := h'
  obtain ⟨ta, a1, a2⟩ := ha
  obtain ⟨tb, b1, b2⟩ := hb
  obtain ⟨tc, c1, c2⟩ := hc
  exact ⟨_, pt_chain h1 h1' a1 b1 c1 hm, sim_test (sim_chain h2 h2' a2 b2 c2)⟩
theorem ac_isB : CmpA X cl .Is oIsB := ⟨_, op_isBl, sim_isB⟩
theorem ac_notB : CmpA X cl .IsNot oNotB := ⟨_, op_notBl, sim_notB⟩
theorem af_sorted (hc : X.calm = true) : CallA X cl (.builtin "sorted") fSorted := ⟨_, CallR.or cr_sortedI (call_sortedDI hc), simc_sorted⟩
theorem af_min (hc : X.calm = true) : CallA X cl (.builtin "min") fMin := ⟨_, cr_min hc, simc_min⟩
theorem af_sum (hc : X.calm = true) : CallA X cl (.builtin "sum") fSum := ⟨_, cr_sum hc, simc_sum⟩
def PPa (X : Cx) (cl : Cle) (pos : Pos) (keys : List (Option Expr)) (values : List Expr) (prs : List (AE × AE)) : Prop := ∃ trs, PPs X pos keys values trs ∧ SimPs X.K cl trs prs
theorem ap_nil : PPa X cl pos [] [] [] := ⟨_, pps_nil, .nil⟩
theorem ap_cons {k v : Expr} {ks : List (Option Expr)} {vs : List Expr} {prs : List (AE × AE)} (hk : PEa X cl k ea) (hv : PEa X cl v eb) (hr : PPa X cl pos ks vs prs) : PPa X cl pos (some k :: ks) (v :: vs) ((ea, eb) :: prs) := by
  obtain ⟨t, a1, a2⟩ := hk
  obtain ⟨u, b1, b2⟩ := hv
  obtain ⟨r, c1, c2⟩ := hr
  exact ⟨_, pps_cons a1 b1 c1, .cons a2 b2 c2⟩
theorem ae_dispK {keys : List (Option Expr)} {values : List Expr} {prs : List (AE × AE)} (h : PPa X cl pos keys values prs) (hall : keys.all (·.isSome) = true := by rfl) (hl : keys.length = values.length := by rfl) (h0 : keys ≠ [] := by exact fun z => nomatch z) (h15 : keys.length ≤ 15 := by exact Nat.le_of_ble_eq_true rfl) :
    PEa X cl (.Dict keys values pos) (eDispK prs) := by
  obtain ⟨r, c1, c2⟩ := h
  exact ⟨_, pe_disp c1 hall hl h0 h15, sim_dispK c2⟩
theorem ae_dispT {keys : List (Option Expr)} {values : List Expr} {prs : List (AE × AE)} (hu : X.A.units + 1 < cLine) (h : PPa X cl pos keys values prs) (hall : keys.all (·.isSome) = true := by rfl) (hl : keys.length = values.length := by rfl) (h0 : keys ≠ [] := by exact fun z => nomatch z) (h15 : keys.length ≤ 15 := by exact Nat.le_of_ble_eq_true rfl) (hP : cl.P = X.prog := by rfl) (hw : cl.w = X.w := by rfl) :
    PEa X cl (.Dict keys values pos) (eDispT prs) := by
  obtain ⟨r, c1, c2⟩ := h
  exact ⟨_, pe_xdisp hu c1 hall hl h0 h15, sim_dispT hP hw c2⟩
theorem as_forD (i : Nat) {x : Str} {tg : Expr} {body : List Stmt} {ag : AG} (hp : PassesOwn (model X.prog X.w) X.A X.env X.xe) (hc : X.calm = true) (hg : PGa X cl tg ag) (hb : PSsa X cl body sb) (hN : X.N[i]? = some x := by rfl) (hv : Vis X.env.scope x := by first | exact Or.inl rfl | exact Or.inr (Or.inl rfl) | exact Or.inr (Or.inr rfl)) (hd : (x == ("__debug__" : Str)) = false := by decide)
    (hcd : (x == ("__classdict__" : Str)) = false := by decide) (hs : ∀ y, foldedSetIterable (.Name x p) X.env y = pure y := by intro _; rfl) (hP : cl.P = X.prog := by rfl) (hw : cl.w = X.w := by rfl) : PSa X cl (.For tg (.Name x p) body [] pos) (sForD i ag sb) := by
  obtain ⟨u, b1, b2⟩ := hg
  obtain ⟨v, c1, c2⟩ := hb
  exact ⟨_, PS.or (ps_lock (ps_for hp hc (pi_keys (pe_var hN hv hd hcd)) b1 c1 hs)) (ps_lock (ps_for hp hc (pi_keysX (pe_var hN hv hd hcd)) b1 c1 hs)), sim_forD hP hw b2 c2⟩
theorem ae_insert (ha : PEa X cl o ea) (hb : PAa X cl (e :: es) ra)
    (h : ∀ to t, PE X o to → PA X (e :: es) t → PE X (.Call (.Attribute o (Str.ofString "insert") apos) (e :: es) [] cpos) (tBM X.K "list" (fun x vs H Q => ∃ (l : Addr) (xs : List V) (i : Int) (y : V), x = .ref l ∧ vs = [.int i, y] ∧ H l = some (.lst xs) ∧ xs.length < sizeLine ∧ 0 ≤ i ∧ i < 2 ^ 63 ∧
      Q .non (upd H l (.lst (xs.take i.toNat ++ [y] ++ xs.drop i.toNat)))) to t)) : PEa X cl (.Call (.Attribute o (Str.ofString "insert") apos) (e :: es) [] cpos) (eLM mInsert ea ra) := by
  obtain ⟨t, a1, a2⟩ := ha
  obtain ⟨u, b1, b2⟩ := hb
  exact ⟨_, h _ _ a1 b1, sim_lm simm_insert a2 b2⟩
/-- the module's own values -/
def GlV (mg : Str → Option Value) (x : Str) (v : V) : Prop := ∃ u, mg x = some u ∧ RelV v u
def GlTup (K : PySem.W.Frag) (mg : Str → Option Value) (x : Str) (xs : List AV) : Prop := ∃ a cs, mg x = some (.ref a) ∧ SqT K (fun _ => none) a cs ∧ RVs K (fun _ => none) (fun _ => none) xs cs
theorem ae_gI {x : Str} {i : Int} (hg : Gl X x) (g : GlV X.mg x (.int i)) (hd : (x == ("__debug__" : Str)) = false := by decide) : PEa X cl (.Name x pos) (eC (.int i)) := by
  obtain ⟨u, h1, h2⟩ := g
  exact ⟨_, pe_glob hg h1 h2 hd, sim_c fun _ _ => rv_int _⟩
theorem ae_gS {x : Str} {y : String} (hg : Gl X x) (g : GlV X.mg x (.str (Str.ofString y))) (hd : (x == ("__debug__" : Str)) = false := by decide) : PEa X cl (.Name x pos) (eC (.str y)) := by
  obtain ⟨u, h1, h2⟩ := g
  exact ⟨_, pe_glob hg h1 h2 hd, sim_c fun _ _ => rv_str _⟩
theorem ae_gT {x : Str} {xs : List AV} (hg : Gl X x) (g : GlTup X.K X.mg x xs) (hd : (x == ("__debug__" : Str)) = false := by decide) : PEa X cl (.Name x pos) (eC (.tup xs)) := by
  obtain ⟨a, cs, h1, h2, h3⟩ := g
  refine ⟨_, pe_glob (v := .ref a) hg h1 rfl hd, sim_c fun ρ H => ?_⟩
  rw [RV]
  have m : Mo (fun _ => none) (fun _ => none) ρ H := ⟨fun n a e => (nomatch e), fun b o i e => (nomatch e)⟩
  exact ⟨a, cs, rfl, .inr h2, h3.mo m⟩
end
end Sy
/-! SyI: the calculus for SyH's words. -/
namespace Sy
open PySem L2
section
variable {σ : ASt} {M : AH} {Q : AV × AH → Prop} {QA : List AV × AH → Prop} {QT : Bool × AH → Prop} {QS : Fl × ASt × AH → Prop} {a b c : AE} {f : A2} {r : AA} {t u : AT} {s s' : AS} {α : Type}
theorem aTup_tup {gs : List AG} {xs : List AV} : aTup gs (.tup xs) σ = goT gs xs σ := rfl
theorem goT_nil : goT [] [] σ = some σ := rfl
theorem goT_cons {g : AG} {gs : List AG} {x : AV} {xs : List AV} : goT (g :: gs) (x :: xs) σ = (g x σ).bind fun σ' => goT gs xs σ' := rfl
theorem w_asgT {gs : List AG} : wpO (sAsg a (aTup gs) σ M) QS = wpO (a σ M) fun p => wpO (aTup gs p.1 σ) fun σ' => QS (.nx, σ', p.2) := by unfold sAsg; simp only [wpO_wq, q_bind, q_some]
theorem w_andV : wpO (eAndV a b σ M) Q = wpO (a σ M) fun p => wpO (blO p.1) fun x => br x (wpO (b σ p.2) Q) (Q (.bl false, p.2)) := by
  unfold eAndV
  rw [w_bind]
  refine wpO_congr rfl (funext fun p => ?_)
  obtain ⟨v, N⟩ := p
  cases v with
  | bl x =>
    show wpO (if x = true then b σ N else some (.bl false, N)) Q = wpO (some x) _
    rw [w_some, br_if, w_some]
  | _ => show wpO none Q = wpO none _; rw [w_none, w_none]
theorem w_orV : wpO (eOrV a b σ M) Q = wpO (a σ M) fun p => wpO (blO p.1) fun x => br x (Q (.bl true, p.2)) (wpO (b σ p.2) Q) := by
  unfold eOrV
  rw [w_bind]
  refine wpO_congr rfl (funext fun p => ?_)
  obtain ⟨v, N⟩ := p
  cases v with
  | bl x =>
    show wpO (if x = true then some (.bl true, N) else b σ N) Q = wpO (some x) _
    rw [w_some, br_if, w_some]
  | _ => show wpO none Q = wpO none _; rw [w_none, w_none]
theorem w_chain {g : A2} : wpO (eChain f g a b c σ M) Q = wpO (a σ M) fun p => wpO (b σ p.2) fun q => wpO (f p.1 q.1 q.2) fun r => wpO (blO r.1) fun x => br x (wpO (c σ r.2) fun u => wpO (g q.1 u.1 u.2) Q) (Q (.bl false, r.2)) := by
  unfold eChain
  rw [w_bind]
  refine wpO_congr rfl (funext fun p => ?_)
  rw [w_bind]
  refine wpO_congr rfl (funext fun q => ?_)
  rw [w_bind]
  refine wpO_congr rfl (funext fun r => ?_)
  obtain ⟨v, N⟩ := r
  cases v with
  | bl x =>
    show wpO (if x = true then (c σ N).bind _ else some (.bl false, N)) Q = wpO (some x) _
    rw [w_some, br_if, w_some, w_bind]
  | _ => show wpO none Q = wpO none _; rw [w_none, w_none]
theorem w_un {g : A1} : wpO (eUn g a σ M) Q = wpO (a σ M) fun p => wpO (g p.1 p.2) Q := by unfold eUn; rw [w_bind]
theorem fNotV_b {x : Bool} : fNotV (.bl x) M = some (.bl (!x), M) := rfl
theorem fNeg_i {i : Int} : fNeg (.int i) M = some (.int (-i), M) := rfl
theorem w_break : wpO (sBreak σ M) QS = QS (.bk, σ, M) := w_some
theorem w_cont : wpO (sCont σ M) QS = QS (.ct, σ, M) := w_some
theorem w_retN : wpO (sRetN σ M) QS = QS (.rt .non, σ, M) := w_some
theorem w_aug {i : Nat} : wpO (sAug i f a σ M) QS = wpO (slot σ i) fun x => wpO (a σ M) fun p => wpO (f x p.1 p.2) fun q => QS (.nx, σ.set i (some q.1), q.2) := by
  unfold sAug slot
  cases σ[i]? with
  | none => show wpO none QS = wpO none _; rw [w_none, w_none]
  | some o =>
    cases o with
    | none => show wpO none QS = wpO none _; rw [w_none, w_none]
    | some v =>
      show wpO ((a σ M).bind _) QS = wpO (some v) _
      rw [w_some, w_bind]
      refine wpO_congr rfl (funext fun p => ?_)
      rw [w_bind]
      refine wpO_congr rfl (funext fun q => ?_)
      exact w_some
theorem oIsB_b {x y : Bool} : oIsB (.bl x) (.bl y) M = some (.bl (decide (x = y)), M) := rfl
theorem oNotB_b {x y : Bool} : oNotB (.bl x) (.bl y) M = some (.bl (!decide (x = y)), M) := rfl
def inW (o : Option AO) (x : AV) (M : AH) : Option Bool := match o with
  | some (.lst xs) => (dat 8 M x).bind fun d => (datL (dat 7 M) xs).map fun ds => ds.any fun z => PyData.eqv z d
  | some (.dK kvs) => (AV.key x).map fun k => (look kvs k).isSome
  | some (.lK kvs) => (AV.key x).map fun k => (look kvs k).isSome
  | some (.dT kvs) => (keyT x).map fun k => (look kvs k).isSome
  | some (.lT kvs) => (keyT x).map fun k => (look kvs k).isSome
  | _ => none
theorem inB_ref {n : Nat} {x : AV} : inB x (.ref n) M = inW (M.get n) x M := by
  unfold inB dGet dLook inW
  dsimp only
  cases h : M.get n with
  | none => simp [dkO, dtO]
  | some o => cases o <;> simp [dkO, dtO] <;> (try rfl) <;> (first | (cases AV.key x <;> rfl) | (cases keyT x <;> rfl))
theorem wo_in {x y : AV} : wpO (oInB x y M) Q = wpO (inB x y M) fun z => Q (.bl z, M) := by unfold oInB; rw [w_map]
theorem wo_nin {x y : AV} : wpO (oNinB x y M) Q = wpO (inB x y M) fun z => Q (.bl (!z), M) := by unfold oNinB; rw [w_map]
theorem inW_lst {xs : List AV} {x : AV} : inW (some (.lst xs)) x M = (dat 8 M x).bind fun d => (datL (dat 7 M) xs).map fun ds => ds.any fun z => PyData.eqv z d := rfl
theorem inW_dK {kvs : List (AK × AV)} {x : AV} : inW (some (.dK kvs)) x M = (AV.key x).map fun k => (look kvs k).isSome := rfl
theorem inW_dT {kvs : List (List AK × AV)} {x : AV} : inW (some (.dT kvs)) x M = (keyT x).map fun k => (look kvs k).isSome := rfl
theorem any_eqv_ints {i : Int} : ∀ ns : List Int, (ns.map PyData.int).any (fun z => PyData.eqv z (.int i)) = decide (i ∈ ns)
  | [] => by simp
  | n :: ns => by
    rw [List.map_cons, List.any_cons, any_eqv_ints ns, eqv_int]
    by_cases h : n = i
    · subst h; simp
    · have h' : ¬ i = n := fun z => h z.symm
      simp [h, h']
theorem mInsert_l {n : Nat} {xs : List AV} {i : Int} {y : AV} (h : M.get n = some (.lst xs)) (h1 : xs.length < 100000) (h2 : 0 ≤ i) (h3 : i < 2 ^ 63) : mInsert (.ref n) [.int i, y] M = some (.non, M.set n (.lst (xs.take i.toNat ++ [y] ++ xs.drop i.toNat))) := by
  unfold mInsert
  dsimp only
  rw [lst_get, h, lstO_lst, Option.bind_some, if_pos ⟨h1, h2, h3⟩]
theorem fSorted_l {n : Nat} {is : List Int} (h : M.get n = some (.lst (is.map .int))) : fSorted [.ref n] M = some (.ref M.next, M.new (.lst (is.mergeSort.map .int))) := by
  unfold fSorted numsV seqV
  dsimp only
  rw [lst_get, h, lstO_lst]
  dsimp only
  rw [intsOf_ints, Option.map_some, Option.map_some]
theorem fSorted_d {n : Nat} {kvs : List (AK × AV)} {is : List Int} (h : M.get n = some (.dK kvs)) (hk : intsK (kvs.map (·.1)) = some is) (hl : is.length < 64) : fSorted [.ref n] M = some (.ref M.next, M.new (.lst (is.mergeSort.map .int))) := by
  unfold fSorted numsV seqV
  dsimp only
  rw [lst_get, h]
  dsimp only [lstO, dkO]
  rw [Option.bind_some, hk, Option.bind_some, if_pos hl]
  rfl
theorem fMin_l {n : Nat} {is : List Int} {m : Int} (h : M.get n = some (.lst (is.map .int))) (hm : is.min? = some m) : fMin [.ref n] M = some (.int m, M) := by
  unfold fMin seqV
  dsimp only
  rw [lst_get, h, lstO_lst, Option.bind_some, intsOf_ints, Option.bind_some, hm, Option.map_some]
theorem fSum_l {n : Nat} {is : List Int} (h : M.get n = some (.lst (is.map .int))) : fSum [.ref n] M = some (.int is.sum, M) := by
  unfold fSum seqV
  dsimp only
  rw [lst_get, h, lstO_lst, Option.bind_some, intsOf_ints, Option.map_some]
/-! displays -/
theorem w_prs0 {QP : List (AV × AV) × AH → Prop} : wpO (pairsGo [] σ M) QP = QP ([], M) := w_some
theorem w_prs {prs : List (AE × AE)} {QP : List (AV × AV) × AH → Prop} : wpO (pairsGo ((a, b) :: prs) σ M) QP = wpO (a σ M) fun p => wpO (b σ p.2) fun q => wpO (pairsGo prs σ q.2) fun u => QP ((p.1, q.1) :: u.1, u.2) := by
  show wpO ((a σ M).bind _) QP = _
  simp only [wpO_wq, q_bind, q_some]
theorem w_dispK {prs : List (AE × AE)} : wpO (eDispK prs σ M) Q = wpO (pairsGo prs σ (M.new (.dK []))) fun p => wpO (keysK p.1) fun kvs => (isDK (p.2.get M.next) = true ∧ kvs.length ≤ 15) ∧ Q (.ref M.next, p.2.set M.next (.dK (merM [] kvs))) := by
  unfold eDispK
  simp only [wpO_wq, q_bind, q_if, q_some]
theorem w_dispT {prs : List (AE × AE)} : wpO (eDispT prs σ M) Q = wpO (pairsGo prs σ (M.new (.dT []))) fun p => wpO (keysT p.1) fun kvs => (isDT (p.2.get M.next) = true ∧ kvs.length ≤ 15) ∧ Q (.ref M.next, p.2.set M.next (.dT (merM [] kvs))) := by
  unfold eDispT
  simp only [wpO_wq, q_bind, q_if, q_some]
theorem keysK_nil : keysK [] = some [] := rfl
theorem keysK_cons {k v : AV} {r : List (AV × AV)} : keysK ((k, v) :: r) = (AV.key k).bind fun k => (keysK r).bind fun u => some ((k, v) :: u) := rfl
theorem keysT_nil : keysT [] = some [] := rfl
theorem keysT_cons {k v : AV} {r : List (AV × AV)} : keysT ((k, v) :: r) = (keyT k).bind fun k => (keysT r).bind fun u => some ((k, v) :: u) := rfl
theorem isDK_yes : isDK (some (.dK [])) = true := rfl
theorem isDT_yes : isDT (some (.dT [])) = true := rfl
theorem merM_nil {κ : Type} [DecidableEq κ] {acc : List (κ × AV)} : merM acc [] = acc := rfl
theorem merM_cons {κ : Type} [DecidableEq κ] {acc es : List (κ × AV)} {k : κ} {v : AV} : merM acc ((k, v) :: es) = merM (putM acc k v) es := rfl
/-! while, for k in d -/
theorem wp_while (I : Nat → ASt → AH → Prop) {m0 : Nat} (h0 : I m0 σ M) (hm : m0 < 1000000)
    (ht : ∀ m σ M, I m σ M → wpO (t σ M) fun p => if p.1 = true then wpO (s σ p.2) fun q => match q.1 with
      | .nx => ∃ m', m' < m ∧ I m' q.2.1 q.2.2
      | .ct => ∃ m', m' < m ∧ I m' q.2.1 q.2.2
      | .bk => QS (.nx, q.2)
      | .rt v => QS (.rt v, q.2) else QS (.nx, σ, p.2)) : wpO (sWhile t s σ M) QS := by
  suffices h : ∀ (n m : Nat) (σ : ASt) (M : AH), m < n → I m σ M → wpO (whileGo t s n σ M) QS from h _ m0 σ M hm h0
  intro n
  induction n with
  | zero => intro m σ M h; omega
  | succ n ih =>
    intro m σ M hmn h
    show wpO ((t σ M).bind _) QS
    rw [w_bind]
    refine (ht m σ M h).mono fun p h1 => ?_
    obtain ⟨x, N⟩ := p
    cases x with
    | false =>
      rw [if_neg (by simp)] at h1
      rw [if_neg (by simp), w_some]
      exact h1
    | true =>
      rw [if_pos rfl] at h1
      rw [if_pos rfl, w_bind]
      refine h1.mono fun q h2 => ?_
      obtain ⟨fl, σ2, M2⟩ := q
      cases fl with
      | nx => obtain ⟨m', hlt, h3⟩ := h2; exact ih m' _ _ (by omega) h3
      | ct => obtain ⟨m', hlt, h3⟩ := h2; exact ih m' _ _ (by omega) h3
      | bk => rw [w_some]; exact h2
      | rt v => rw [w_some]; exact h2
theorem wp_forDK {i n : Nat} {g : AG} {kvs : List (AK × AV)} (h : slot σ i = some (.ref n)) (hg : M.get n = some (.dK kvs)) (k : wpO (forGo g s okT (kvs.map fun kv => kv.1.av) σ (M.set n (.lK kvs))) fun p => QS (p.1, p.2.1, p.2.2.set n (.dK kvs))) : wpO (sForD i g s σ M) QS := by
  have e : σ[i]? = some (some (.ref n)) := by
    unfold slot at h
    split at h
    · rename_i v e; cases h; exact e
    · cases h
  unfold sForD
  rw [e]
  dsimp only
  rw [hg]
  dsimp only
  rw [w_bind]
  have q : sFor (itLK i) g s σ (M.set n (.lK kvs)) = forGo g s okT (kvs.map fun kv => kv.1.av) σ (M.set n (.lK kvs)) := by
    unfold sFor itLK
    rw [e]
    dsimp only
    rw [get_set, sel_self]
    rfl
  rw [q]
  refine k.mono fun p hp => ?_
  rw [w_some]
  exact hp
theorem wp_forDT {i n : Nat} {g : AG} {kvs : List (List AK × AV)} (h : slot σ i = some (.ref n)) (hg : M.get n = some (.dT kvs)) (k : wpO (forGo g s okT (kvs.map fun kv => .tup (kv.1.map AK.av)) σ (M.set n (.lT kvs))) fun p => QS (p.1, p.2.1, p.2.2.set n (.dT kvs))) : wpO (sForD i g s σ M) QS := by
  have e : σ[i]? = some (some (.ref n)) := by
    unfold slot at h
    split at h
    · rename_i v e; cases h; exact e
    · cases h
  unfold sForD
  rw [e]
  dsimp only
  rw [hg]
  dsimp only
  rw [w_bind]
  have q : sFor (itLT i) g s σ (M.set n (.lT kvs)) = forGo g s okT (kvs.map fun kv => .tup (kv.1.map AK.av)) σ (M.set n (.lT kvs)) := by
    unfold sFor itLT
    rw [e]
    dsimp only
    rw [get_set, sel_self]
    rfl
  rw [q]
  refine k.mono fun p hp => ?_
  rw [w_some]
  exact hp
end
end Sy
/-! SyJ: what the laws share: their draws; a heap's things as a list. -/
namespace Sy
open PySem L2
/-- the law's draws: a counter and its cells -/
structure St (M : AH) (s c : Nat) : Prop where
  ne : s ≠ c
  sl : s < M.next
  cl : c < M.next
  ex : ∃ (i : Int) (cs : List Int), M.get s = some (.lst [.int i, .ref c]) ∧ M.get c = some (.lst (cs.map .int)) ∧ cs ≠ [] ∧ 0 ≤ i ∧ cs.length ≤ 64 ∧ ∀ x ∈ cs, 0 ≤ x
theorem St.mo {M M' : AH} {s c : Nat} (h : St M s c) (hs : M'.get s = M.get s) (hc : M'.get c = M.get c) (hn : M.next ≤ M'.next) : St M' s c := by
  obtain ⟨i, cs, h1, h2, h3⟩ := h.ex
  exact ⟨h.ne, Nat.lt_of_lt_of_le h.sl hn, Nat.lt_of_lt_of_le h.cl hn, i, cs, hs.trans h1, hc.trans h2, h3⟩
theorem ixN_nat' {n j : Nat} (h : j < n) : ixN n (j : Int) = some j := by
  unfold ixN
  rw [if_pos (by omega), if_pos (by omega)]
  simp
/-- the heap has the law's draws, and the things of a list, each at its place -/
structure Hs (M : AH) (s c : Nat) (L : List (Nat × AO)) : Prop where
  st : St M s c
  nd : (s :: c :: L.map (·.1)).Nodup
  at' : ∀ p ∈ L, M.get p.1 = some p.2
  lt : ∀ p ∈ L, p.1 < M.next
section
variable {M M' : AH} {s c : Nat} {L L' L1 L2 : List (Nat × AO)} {n : Nat} {o o' : AO}
theorem Hs.get (h : Hs M s c L) (hm : (n, o) ∈ L) : M.get n = some o := h.at' _ hm
theorem Hs.lt' (h : Hs M s c L) (hm : (n, o) ∈ L) : n < M.next := h.lt _ hm
theorem Hs.sub (h : Hs M s c L) (k : L'.Sublist L) : Hs M s c L' :=
  ⟨h.st, h.nd.sublist (((k.map _).cons₂ _).cons₂ _), fun p hp => h.at' p (k.subset hp), fun p hp => h.lt p (k.subset hp)⟩
theorem Hs.perm (h : Hs M s c L) (k : L'.Perm L) : Hs M s c L' :=
  ⟨h.st, (((k.map _).cons _).cons _).nodup_iff.mpr h.nd, fun p hp => h.at' p (k.mem_iff.mp hp), fun p hp => h.lt p (k.mem_iff.mp hp)⟩
/-- behind a draw -/
theorem Hs.drawn (h : Hs M s c L) (hs : St M' s c) (hf : ∀ n, n ≠ s → n ≠ c → M'.get n = M.get n) (hn : M'.next = M.next) : Hs M' s c L := by
  refine ⟨hs, h.nd, fun p hp => ?_, fun p hp => by rw [hn]; exact h.lt p hp⟩
  have hm : p.1 ∈ L.map (·.1) := List.mem_map_of_mem hp
  have n1 : p.1 ≠ s := fun z => by
    have := List.nodup_cons.mp h.nd
    exact this.1 (List.mem_cons_of_mem _ (z ▸ hm))
  have n2 : p.1 ≠ c := fun z => by
    have := List.nodup_cons.mp (List.nodup_cons.mp h.nd).2
    exact this.1 (z ▸ hm)
  rw [hf _ n1 n2]
  exact h.at' p hp
theorem Hs.ne (h : Hs M s c L) (hm : n ∈ L.map (·.1)) : n ≠ s ∧ n ≠ c :=
  ⟨fun z => (List.nodup_cons.mp h.nd).1 (List.mem_cons_of_mem _ (z ▸ hm)), fun z => (List.nodup_cons.mp (List.nodup_cons.mp h.nd).2).1 (z ▸ hm)⟩
/-- something new -/
theorem Hs.new (h : Hs M s c L) (o : AO) : Hs (M.new o) s c ((M.next, o) :: L) := by
  have hs := h.st
  refine ⟨hs.mo (by rw [get_new, sel_lt hs.sl]) (by rw [get_new, sel_lt hs.cl]) (Nat.le_succ _), ?_, fun p hp => ?_, fun p hp => ?_⟩
  · have q : (M.next :: s :: c :: L.map (·.1)).Nodup := List.nodup_cons.mpr ⟨fun z => by
      rcases List.mem_cons.mp z with z | z
      · have := hs.sl; omega
      · rcases List.mem_cons.mp z with z | z
        · have := hs.cl; omega
        · obtain ⟨p, hp, e⟩ := List.mem_map.mp z
          have := h.lt p hp
          omega, h.nd⟩
    refine List.Perm.nodup ?_ q
    exact (List.Perm.swap _ _ _).trans ((List.Perm.swap _ _ _).cons _)
  · rcases List.mem_cons.mp hp with rfl | hp
    · rw [get_new, sel_self]
    · have := h.lt p hp
      rw [get_new, sel_lt this]
      exact h.at' p hp
  · rcases List.mem_cons.mp hp with rfl | hp
    · exact Nat.lt_succ_self _
    · exact Nat.lt_succ_of_lt (h.lt p hp)
/-- one is changed -/
theorem Hs.set (h : Hs M s c (L1 ++ (n, o) :: L2)) (o' : AO) : Hs (M.set n o') s c (L1 ++ (n, o') :: L2) := by
  have hn := h.ne (n := n) (by simp)
  have hm : (L1 ++ (n, o') :: L2).map (·.1) = (L1 ++ (n, o) :: L2).map (·.1) := by simp
  refine ⟨h.st.mo (by rw [get_set, sel_ne hn.1.symm]) (by rw [get_set, sel_ne hn.2.symm]) (Nat.le_refl _), by rw [hm]; exact h.nd, fun p hp => ?_, fun p hp => ?_⟩
  · have nd := (List.nodup_cons.mp (List.nodup_cons.mp h.nd).2).2
    rw [List.map_append, List.map_cons, List.nodup_append] at nd
    obtain ⟨_, nd2, nd3⟩ := nd
    rw [get_set]
    simp only [List.mem_append, List.mem_cons] at hp
    rcases hp with hp | rfl | hp
    · rw [sel_ne (nd3 _ (List.mem_map_of_mem hp) _ List.mem_cons_self)]
      exact h.at' p (by simp [hp])
    · rw [sel_self]
    · have z : p.1 ≠ n := fun e => (List.nodup_cons.mp nd2).1 (e ▸ List.mem_map_of_mem (f := (·.1)) hp)
      rw [sel_ne z]
      exact h.at' p (by simp [hp])
  · simp only [List.mem_append, List.mem_cons] at hp
    rcases hp with hp | rfl | hp
    · exact h.lt p (by simp [hp])
    · exact h.lt (n, o) (by simp)
    · exact h.lt p (by simp [hp])
theorem Hs.set0 (h : Hs M s c ((n, o) :: L2)) (o' : AO) : Hs (M.set n o') s c ((n, o') :: L2) := Hs.set (L1 := []) h o'
/-- other heaps that have the same -/
theorem Hs.cast (h : Hs M s c L) (e : M' = M) : Hs M' s c L := by subst e; exact h
theorem Hs.start (h : St M s c) : Hs M s c [] := ⟨h, by simpa using h.ne, fun p hp => (nomatch hp), fun p hp => (nomatch hp)⟩
/-! methods of lists -/
theorem mAppend_l {n : Nat} {xs : List AV} {y : AV} (h : M.get n = some (.lst xs)) (hl : xs.length < 100000) : mAppend (.ref n) [y] M = some (.non, M.set n (.lst (xs ++ [y]))) := by
  unfold mAppend
  dsimp only
  rw [lst_get, h, lstO_lst, Option.bind_some, if_pos hl]
theorem mPop0_l {n : Nat} {xs : List AV} {y : AV} (h : M.get n = some (.lst (xs ++ [y]))) : mPop0 (.ref n) [] M = some (y, M.set n (.lst xs)) := by
  unfold mPop0
  dsimp only
  rw [lst_get, h, lstO_lst, Option.bind_some]
  simp
theorem mPop1_l {n j : Nat} {xs : List AV} {y : AV} (h : M.get n = some (.lst xs)) (hj : xs[j]? = some y) (hl : xs.length < 100000) : mPop1 (.ref n) [.int (j : Int)] M = some (y, M.set n (.lst (xs.eraseIdx j))) := by
  have hlt := (List.getElem?_eq_some_iff.mp hj).1
  unfold mPop1
  dsimp only
  rw [lst_get, h, lstO_lst, Option.bind_some, if_pos ⟨by omega, by omega⟩]
  have e : seqIndex? (j : Int) xs.length = some j := by
    unfold seqIndex?
    simp
    omega
  rw [e, Option.bind_some, hj]
  rfl
theorem oAdd_l {n m : Nat} {xs ys : List AV} (h1 : M.get n = some (.lst xs)) (h2 : M.get m = some (.lst ys)) (hl : xs.length + ys.length ≤ 100000) : oAdd (.ref n) (.ref m) M = some (.ref M.next, M.new (.lst (xs ++ ys))) := by
  unfold oAdd
  dsimp only
  rw [lst_get, lst_get, h1, h2, lstO_lst, lstO_lst]
  dsimp only
  rw [if_pos hl]
theorem datI {ns : List Int} : datL (dat 7 M) (ns.map AV.int) = some (ns.map PyData.int) := datL_ints (fun _ => rfl) ns
theorem eqv_l0 {ns : List Int} : PyData.eqv (.list (ns.map .int)) (.list []) = decide (ns = []) := eqv_ints (ys := [])
theorem eqv_0l {ns : List Int} : PyData.eqv (.list []) (.list (ns.map .int)) = decide ([] = ns) := eqv_ints (xs := [])
theorem eqv_00 : PyData.eqv (.list []) (.list []) = true := by
  have := eqv_ints (xs := []) (ys := [])
  simpa using this
theorem str_eq {x y : String} : PyData.eqv (.str (Str.ofString x)) (.str (Str.ofString y)) = decide (x = y) := by
  by_cases e : x = y
  · subst e; rw [PyData.eqv]; simp
  · have : ¬ Str.ofString x = Str.ofString y := fun z => e (ofString_inj z)
    rw [PyData.eqv]; simp [e, this]
theorem cut_1 {x : AV} {xs : List AV} : cutA (x :: xs) (some 1) none = xs := by
  show (List.drop (HT.sIx _ 0 (some ((1 : Nat) : Int))) _).take (HT.sIx _ _ none - HT.sIx _ 0 (some ((1 : Nat) : Int))) = xs
  rw [HT.sIx_nat]
  have e : min 1 (x :: xs).length = 1 := by rw [List.length_cons]; omega
  rw [e]
  show xs.take ((x :: xs).length - 1) = xs
  rw [List.length_cons]
  exact List.take_of_length_le (by omega)
theorem cut_to {xs : List AV} {j : Nat} (h : j ≤ xs.length) : cutA xs none (some (j : Int)) = xs.take j := by
  show (List.drop 0 _).take (HT.sIx _ _ (some (j : Int)) - 0) = _
  rw [HT.sIx_nat, List.drop_zero, Nat.min_eq_left h, Nat.sub_zero]
theorem cut_from {xs : List AV} {j : Nat} (h : j ≤ xs.length) : cutA xs (some (j : Int)) none = xs.drop j := by
  show (List.drop (HT.sIx _ 0 (some (j : Int))) _).take (HT.sIx _ _ none - HT.sIx _ 0 (some (j : Int))) = _
  rw [HT.sIx_nat, Nat.min_eq_left h]
  show (xs.drop j).take (xs.length - j) = _
  exact List.take_of_length_le (by rw [List.length_drop]; exact Nat.le_refl _)
theorem Hs.neq {p q : Nat × AO} {L1 L2 : List (Nat × AO)} (h : Hs M s c (L1 ++ L2)) (hp : p ∈ L1) (hq : q ∈ L2) : p.1 ≠ q.1 := by
  have nd := (List.nodup_cons.mp (List.nodup_cons.mp h.nd).2).2
  rw [List.map_append, List.nodup_append] at nd
  exact nd.2.2 _ (List.mem_map_of_mem hp) _ (List.mem_map_of_mem hq)
theorem Hs.drop (h : Hs M s c ((n, o) :: L)) : Hs M s c L := h.sub (List.sublist_cons_self _ _)
end
end Sy
/-! SyK: targets that change the heap (fields within a tuple of targets). -/
namespace Sy
open PySem L2 PySem.Spec PyProof.Rows
abbrev AGH := AV → ASt → AH → Option (ASt × AH)
def hLoc (g : AG) : AGH := fun v σ M => (g v σ).map fun σ' => (σ', M)
def hFld (cs : List String) (f : String) (a : AE) : AGH := fun v σ M => (a σ M).bind fun q => (fldPut cs f q.2 q.1 v).bind fun M' => some (σ, M')
def goH : List AGH → List AV → ASt → AH → Option (ASt × AH)
  | [], [], σ, M => some (σ, M)
  | g :: gs, x :: xs, σ, M => (g x σ M).bind fun p => goH gs xs p.1 p.2
  | _, _, _, _ => none
def hTup (gs : List AGH) : AGH := fun v σ M => match v with
  | .tup xs => goH gs xs σ M
  | _ => none
def sAsgH (a : AE) (g : AGH) : AS := fun σ M => (a σ M).bind fun p => (g p.1 σ p.2).bind fun q => some (.nx, q.1, q.2)
section
variable {K : PySem.W.Frag} {cl : Cle} {X : Cx}
def SimGH (K : PySem.W.Frag) (cl : Cle) (g : TG) (a : AGH) : Prop := ∀ ⦃ρ M H x y σ c σ' M'⦄, Sm K cl ρ M H → RV K ρ H x y → RS K ρ H σ c → a x σ M = some (σ', M') → ∀ Q : L2.St → Hp → Prop, (∀ ρ' H' c', Sm K cl ρ' M' H' → Mo ρ H ρ' H' → RS K ρ' H' σ' c' → Q c' H') → g y c H Q
inductive SimGsH (K : PySem.W.Frag) (cl : Cle) : TGs → List AGH → Prop where
  | nil : SimGsH K cl gNil []
  | cons {t : TG} {u : TGs} {g : AGH} {gs : List AGH} : SimGH K cl t g → SimGsH K cl u gs → SimGsH K cl (gCons t u) (g :: gs)
theorem goH_len : ∀ {gs : List AGH} {xs : List AV} {σ : ASt} {M : AH} {p : ASt × AH}, goH gs xs σ M = some p → xs.length = gs.length
  | [], [], _, _, _, _ => rfl
  | [], _ :: _, _, _, _, h => by cases h
  | _ :: _, [], _, _, _, h => by cases h
  | g :: gs, x :: xs, σ, M, p, h => by
    unfold goH at h
    obtain ⟨σ1, _, h⟩ := Option.bind_eq_some_iff.mp h
    rw [List.length_cons, List.length_cons, goH_len h]
theorem simh_loc {t : TG} {g : AG} (h : SimG K cl t g) : SimGH K cl t (hLoc g) := by
  intro ρ M H x y σ c σ' M' S r R h' Q k
  obtain ⟨σ1, e1, e2⟩ := Option.map_eq_some_iff.mp h'
  cases e2
  exact h S r R e1 _ fun c' R' => k _ _ _ S (Mo.refl _ _) R'
def gFld (K : PySem.W.Frag) (ta : TE) (f : Str) : TG := fun v σ H Q => ta σ H fun x H1 => ∃ a C dx fs, x = .ref a ∧ H1 a = some (.ins C dx fs) ∧ Cls K C ∧ NoAttr K C f ∧ fs.length < 1000 ∧ Q σ (upd H1 a (.ins C dx (putF f v fs)))
theorem pg_fld {o : Expr} {f : Str} {pos : Pos} {ta : TE} (ha : PE X o ta) : PG X (.Attribute o f pos) (gFld X.K ta f) := by
  refine ⟨fun pins s σ H v u Q I r h => ?_⟩
  refine PySem.W.kas_attr (thn (ha.run pins s σ H _ I h) fun ov s2 ⟨x, H2, I2, rx, a, C, dx, fs, ex, ea, c, n, l, q2⟩ => ?_)
  subst ex
  obtain rfl : ov = Value.ref a := rx
  exact setattr_ok I2 ea c n l r fun s3 I3 => ⟨σ, _, I3, q2⟩
theorem simh_fld {cs : List String} {f : String} {ta : TE} {a : AE} (F : FldOk K cl cs f) (ha : SimE K cl ta a) : SimGH K cl (gFld K ta (Str.ofString f)) (hFld cs f a) := by
  intro ρ M H x y σ c σ' M' S r R h Q k
  obtain ⟨⟨z, M2⟩, e2, h⟩ := Option.bind_eq_some_iff.mp h
  obtain ⟨M3, e3, h⟩ := Option.bind_eq_some_iff.mp h
  cases h
  refine ha S R e2 _ fun ρ2 H2 w2 S2 m2 r2 => ?_
  obtain ⟨ad, C, dx, gs, q1, q2, q3, q4, q5, S3, m3, _⟩ := fldPut_sim S2 F r2 (r.mo m2) e3
  exact ⟨ad, C, dx, gs, q1, q2, q3, q4, q5, k _ _ _ S3 (m2.trans m3) (R.mo (m2.trans m3))⟩
theorem simgsh_go {u : TGs} {gs : List AGH} (h : SimGsH K cl u gs) : ∀ ⦃ρ M H xs cs σ c σ' M'⦄, Sm K cl ρ M H → RVs K ρ H xs cs → RS K ρ H σ c → goH gs xs σ M = some (σ', M') → ∀ Q : L2.St → Hp → Prop, (∀ ρ' H' c', Sm K cl ρ' M' H' → Mo ρ H ρ' H' → RS K ρ' H' σ' c' → Q c' H') → u cs c H Q := by
  induction h with
  | nil =>
    intro ρ M H xs cs σ c σ' M' S r R h Q k
    cases xs with
    | nil =>
      cases h
      rw [RVs] at r
      subst r
      exact ⟨rfl, k _ _ _ S (Mo.refl _ _) R⟩
    | cons x xs => cases h
  | @cons t u g gs h1 h2 ih =>
    intro ρ M H xs cs σ c σ' M' S r R h Q k
    cases xs with
    | nil => cases h
    | cons x xs =>
      unfold goH at h
      obtain ⟨⟨σ1, M1⟩, e1, h⟩ := Option.bind_eq_some_iff.mp h
      rw [RVs] at r
      obtain ⟨d, r', rfl, r1, r2⟩ := r
      exact ⟨d, r', rfl, h1 S r1 R e1 _ fun ρ1 H1 c' S1 m1 R' => ih S1 (r2.mo m1) R' h Q fun ρ2 H2 c2 S2 m2 R2 => k _ _ _ S2 (m1.trans m2) R2⟩
theorem simh_tup {u : TGs} {gs : List AGH} (h : SimGsH K cl u gs) : SimGH K cl (gTup K gs.length u) (hTup gs) := by
  intro ρ M H x y σ c σ' M' S r R h' Q k
  unfold hTup at h'
  split at h'
  · rw [RV] at r
    obtain ⟨a, cs, rfl, g, rs⟩ := r
    exact ⟨a, cs, rfl, g.sqt, by rw [rs.length, goH_len h'], simgsh_go h S rs R h' Q k⟩
  · cases h'
theorem sim_asgH {ta : TE} {a : AE} {g : TG} {ag : AGH} (ha : SimE K cl ta a) (hg : SimGH K cl g ag) : SimS K cl (tAsg ta g) (sAsgH a ag) := by
  intro ρ M H σ c fl σ' M' S R h D k
  obtain ⟨⟨x, M1⟩, e1, h⟩ := Option.bind_eq_some_iff.mp h
  obtain ⟨⟨z, M2⟩, e2, h⟩ := Option.bind_eq_some_iff.mp h
  cases h
  refine ha S R e1 _ fun ρ1 H1 w S1 m1 r1 => ?_
  exact hg S1 r1 (R.mo m1) e2 _ fun ρ2 H2 c2 S2 m2 R2 => k _ _ _ S2 (m1.trans m2) R2
end
section
variable {X : Cx} {cl : Cle} {pos pos' : Pos} {e o : Expr} {es : List Expr} {ea eb : AE}
def PHa (X : Cx) (cl : Cle) (tg : Expr) (a : AGH) : Prop := ∃ t, PG X tg t ∧ SimGH X.K cl t a
def PHsa (X : Cx) (cl : Cle) (es : List Expr) (gs : List AGH) : Prop := ∃ u, PGs X es u ∧ SimGsH X.K cl u gs
theorem hs_nil : PHsa X cl [] [] := ⟨_, pgs_nil, .nil⟩
theorem hs_cons {g : AGH} {gs : List AGH} (h : PHa X cl e g) (hr : PHsa X cl es gs) (hs : (assignEach (e :: es) X.env).map (·.2) = assign e X.env :: (assignEach es X.env).map (·.2) := by rfl) : PHsa X cl (e :: es) (g :: gs) := by
  obtain ⟨t, a1, a2⟩ := h
  obtain ⟨u, b1, b2⟩ := hr
  exact ⟨_, pgs_cons a1 b1 hs, .cons a2 b2⟩
theorem ah_loc {g : AG} (h : PGa X cl e g) : PHa X cl e (hLoc g) := by
  obtain ⟨t, a1, a2⟩ := h
  exact ⟨_, a1, simh_loc a2⟩
theorem ah_fld {cs : List String} {f : String} (F : FldOk X.K cl cs f) (ho : PEa X cl o eb) : PHa X cl (.Attribute o (Str.ofString f) pos) (hFld cs f eb) := by
  obtain ⟨t, a1, a2⟩ := ho
  exact ⟨_, pg_fld a1, simh_fld F a2⟩
theorem ah_tup {gs : List AGH} {j : Nat} (hc : X.calm = true) (h : PHsa X cl es gs) (hn : (assignEach es X.env).length = gs.length := by rfl) (hst : (assignEach es X.env).findIdx? (·.1) = none := by rfl) : PHa X cl (.Tuple es j pos) (hTup gs) := by
  obtain ⟨u, b1, b2⟩ := h
  exact ⟨_, pg_tup hc b1 hn hst, simh_tup b2⟩
theorem as_asgH {tg : Expr} {ag : AGH} (h : PEa X cl e ea) (hg : PHa X cl tg ag) (hs : swapsWithSole [tg] e pos.line X.env = pure false := by rfl) (hw : swappedStores [tg] e X.env = pure none := by rfl) (h1 : (assignEach [tg] X.env).map (·.2) = [assign tg X.env] := by rfl) :
    PSa X cl (.Assign [tg] e pos) (sAsgH ea ag) := by
  obtain ⟨t, a1, a2⟩ := h
  obtain ⟨u, b1, b2⟩ := hg
  exact ⟨_, ps_asg a1 b1 hs hw h1, sim_asgH a2 b2⟩
end
section
variable {σ : ASt} {M : AH} {a : AE} {QS : Fl × ASt × AH → Prop} {QH : ASt × AH → Prop}
theorem w_asgH {g : AGH} : wpO (sAsgH a g σ M) QS = wpO (a σ M) fun p => wpO (g p.1 σ p.2) fun q => QS (.nx, q.1, q.2) := by unfold sAsgH; simp only [wpO_wq, q_bind, q_some]
theorem w_hLoc {g : AG} {v : AV} : wpO (hLoc g v σ M) QH = wpO (g v σ) fun σ' => QH (σ', M) := by unfold hLoc; rw [w_map]
theorem w_hFld {cs : List String} {f : String} {v : AV} : wpO (hFld cs f a v σ M) QH = wpO (a σ M) fun q => wpO (fldPut cs f q.2 q.1 v) fun M' => QH (σ, M') := by unfold hFld; simp only [wpO_wq, q_bind, q_some]
theorem hTup_tup {gs : List AGH} {xs : List AV} : hTup gs (.tup xs) σ M = goH gs xs σ M := rfl
theorem w_goH0 : wpO (goH [] [] σ M) QH = QH (σ, M) := w_some
theorem w_goH {g : AGH} {gs : List AGH} {x : AV} {xs : List AV} : wpO (goH (g :: gs) (x :: xs) σ M) QH = wpO (g x σ M) fun p => wpO (goH gs xs p.1 p.2) QH := by
  show wpO ((g x σ M).bind _) QH = _
  rw [w_bind]
end
end Sy
/-! SyL: further words: sets of ints, in over tuples and sets, remove, clear, extend, xs[::-1], comprehensions with tuple targets, of two clauses, over a dict, reversed(range). -/
namespace Sy
open PySem L2 PySem.Spec PyProof.Rows
/-! ### sets -/
def fSet0 : AF := fun vs M => match vs with
  | [] => some (.ref M.next, M.new (.st (fun _ => false) 0))
  | _ => none
def stO : Option AO → Option ((Int → Bool) × Nat)
  | some (.st S n) => some (S, n)
  | _ => none
theorem stO_eq {o : Option AO} {p : (Int → Bool) × Nat} (h : stO o = some p) : o = some (.st p.1 p.2) := by
  unfold stO at h
  split at h
  · cases h; rfl
  · cases h
def eSAdd (a : AE) (r : AA) : AE := fun σ M => (a σ M).bind fun p => match p.1 with
  | .ref n => (stO (p.2.get n)).bind fun _ => (r σ p.2).bind fun q => match q.1 with
    | [.int k] => (stO (q.2.get n)).bind fun s => if s.2 + 1 < 4096 then some (.non, q.2.set n (.st (fun j => s.1 j || decide (j = k)) (if s.1 k = true then s.2 else s.2 + 1))) else none
    | _ => none
  | _ => none
/-! ### in, once more: tuples of flat things, sets -/
def flA : AV → Bool
  | .non => true
  | .bl _ => true
  | .int _ => true
  | .str _ => true
  | _ => false
def eqA : AV → AV → Bool
  | .non, .non => true
  | .bl a, .bl b => a == b
  | .bl a, .int b => (if a then 1 else 0) == b
  | .int a, .bl b => a == (if b then 1 else 0)
  | .int a, .int b => a == b
  | .str a, .str b => a == b
  | _, _ => false
def inC (x y : AV) (M : AH) : Option Bool := match y with
  | .tup xs => if flA x = true ∧ xs.all flA = true then some (xs.any fun y => eqA y x) else none
  | .ref n => match M.get n with
    | some (.st S _) => match x with | .int k => some (S k) | _ => none
    | _ => inB x y M
  | _ => inB x y M
def oInC : A2 := fun x y M => (inC x y M).map fun b => (.bl b, M)
def oNinC : A2 := fun x y M => (inC x y M).map fun b => (.bl (!b), M)
def oInY (neg : Bool) : A2 := fun x y M => (inC x y M).map fun c => (.bl (neg ^^ c), M)
theorem oInY_f : oInY false = oInC := by unfold oInY oInC; simp only [Bool.false_xor]
theorem oInY_t : oInY true = oNinC := by unfold oInY oNinC; simp only [Bool.true_xor]
/-! ### methods of lists -/
def mRemove : AM := fun x vs M => match x, vs with
  | .ref n, [.int k] => (M.lst n).bind fun xs => (intsOf xs).bind fun ns => if k ∈ ns then some (.non, M.set n (.lst ((ns.erase k).map .int))) else none
  | _, _ => none
def mClear : AM := fun x vs M => match x, vs with
  | .ref n, [] => (M.lst n).bind fun _ => some (.non, M.set n (.lst []))
  | _, _ => none
def mExtend : AM := fun x vs M => match x, vs with
  | .ref n, [.ref m] => (M.lst n).bind fun xs => (M.lst m).bind fun ys => if xs.length + ys.length ≤ 100000 then some (.non, M.set n (.lst (xs ++ ys))) else none
  | _, _ => none
def eRev (a : AE) : AE := fun σ M => (a σ M).bind fun p => match p.1 with
  | .ref n => (p.2.lst n).map fun xs => (.ref p.2.next, p.2.new (.lst xs.reverse))
  | _ => none
/-! ### comprehensions -/
def lcGoG (D : Nat) (ok : AH → Bool) (g : AG) (tt : AT) (te : AE) (σ : ASt) : List AV → AH → Option AH
  | [], M => if ok M = true then some M else none
  | x :: r, M => if ok M = true then (g x σ).bind fun σ1 => (tt σ1 M).bind fun p => if p.1 = true then (te σ1 p.2).bind fun q => (q.2.lst D).bind fun acc => if acc.length < 100000 then lcGoG D ok g tt te σ r (q.2.set D (.lst (acc ++ [q.1]))) else none
      else lcGoG D ok g tt te σ r p.2
    else none
def eLcG (it : AI) (g : AG) (tt : AT) (te : AE) : AE := fun σ M => (it σ M).bind fun p => (lcGoG p.2.next p.1.ok g tt te σ p.1.all (p.2.new (.lst []))).map fun M' => (.ref p.2.next, M')
/-- the inner clause -/
def lcIn (D : Nat) (ok : AH → Bool) (j : Nat) (te : AE) (σ : ASt) : List AV → AH → Option AH
  | [], M => if ok M = true then some M else none
  | y :: r, M => if ok M = true then (te (σ.set j (some y)) M).bind fun q => (q.2.lst D).bind fun acc => if acc.length < 100000 then lcIn D ok j te σ r (q.2.set D (.lst (acc ++ [q.1]))) else none else none
def lcGo2 (D : Nat) (ok : AH → Bool) (i j : Nat) (it1 : AI) (te : AE) (σ : ASt) : List AV → AH → Option AH
  | [], M => if ok M = true then some M else none
  | x :: r, M => if ok M = true then (it1 ((σ.set j none).set i (some x)) M).bind fun p => (lcIn D p.1.ok j te ((σ.set j none).set i (some x)) p.1.all p.2).bind fun M' => lcGo2 D ok i j it1 te σ r M' else none
def eLc2 (it : AI) (i : Nat) (it1 : AI) (j : Nat) (te : AE) : AE := fun σ M => (it σ M).bind fun p => (lcGo2 p.2.next p.1.ok i j it1 te σ p.1.all (p.2.new (.lst []))).map fun M' => (.ref p.2.next, M')
/-- over a dict, which stands still meanwhile; i: the dict's name, x: the target -/
def eLcD (i x : Nat) (tt : AT) (te : AE) : AE := fun σ M => match σ[i]? with
  | some (some (.ref n)) => match M.get n with
    | some (.dK kvs) => (eLc (itLK i) x tt te σ (M.set n (.lK kvs))).bind fun p => some (p.1, p.2.set n (.dK kvs))
    | _ => none
  | _ => none
/-- reversed(range(n)) -/
def itRev1 (a : AE) : AI := fun σ M => (a σ M).bind fun p => match p.1 with
  | .int j => if -(2 ^ 62) ≤ j ∧ j < 2 ^ 62 then some (⟨((List.range j.toNat).map fun k => .int (k : Nat)).reverse, fun _ => true⟩, p.2) else none
  | _ => none
/-! ### they are kept -/
section
variable {K : PySem.W.Frag} {cl : Cle} {X : Cx}
theorem st_sim {ρ : Rho} {M : AH} {H : Hp} {n : Nat} {a : Addr} {p : (Int → Bool) × Nat} (S : Sm K cl ρ M H) (ra : ρ n = some a) (h : stO (M.get n) = some p) : H a = some (SetO cl.w a p.1 p.2) := by
  obtain ⟨a', ra', x⟩ := S.obj (stO_eq h)
  rw [ra] at ra'
  cases ra'
  exact x
theorem simc_set0 (w : World) (hw : cl.w = w) : SimC K cl (rSet0 w) fSet0 := by
  intro ρ M H x c v M' S r h Q k
  unfold fSet0 at h
  split at h
  · cases h
    rw [RVs] at r
    refine ⟨r, fun p hp => ?_⟩
    obtain ⟨S', m, at'⟩ := S.new (o := .st (fun _ => false) 0) (ho := SetO w p (fun _ => false) 0) hp (by rw [← hw]; exact upd_same)
    exact k _ _ _ S' m (by rw [RV]; exact ⟨p, rfl, at'⟩)
  · cases h
theorem sim_sadd {to : TE} {t : TA} {a : AE} {r : AA} (w : World) (hw : cl.w = w) (ha : SimE K cl to a) (hr : SimA K cl t r) : SimE K cl (tSAdd w to t) (eSAdd a r) := by
  intro ρ M H σ c v M' S R h Q k
  obtain ⟨⟨x, M1⟩, e1, h⟩ := Option.bind_eq_some_iff.mp h
  refine ha S R e1 _ fun ρ1 H1 w1 S1 m1 r1 => ?_
  cases x with
  | ref n =>
    dsimp only at h
    obtain ⟨s1, g1, h⟩ := Option.bind_eq_some_iff.mp h
    obtain ⟨⟨vs, M2⟩, e2, h⟩ := Option.bind_eq_some_iff.mp h
    rw [RV] at r1
    obtain ⟨ad, rfl, ra⟩ := r1
    refine ⟨⟨ad, s1.1, s1.2, rfl, by rw [← hw]; exact st_sim S1 ra g1⟩, ?_⟩
    refine hr S1 (R.mo m1) e2 _ fun ρ2 H2 w2 S2 m2 r2 => ?_
    dsimp only at h
    split at h
    · rename_i k0
      obtain ⟨s2, g2, h⟩ := Option.bind_eq_some_iff.mp h
      split at h
      case isFalse => cases h
      rename_i hl
      cases h
      obtain ⟨d, rfl, r3⟩ := rvs1 r2
      rw [RV] at r3
      subst r3
      have hx := st_sim S2 (m2.le _ _ ra) g2
      obtain ⟨S3, m3⟩ := S2.upd (o' := .st (fun j => s2.1 j || decide (j = k0)) (if s2.1 k0 = true then s2.2 else s2.2 + 1)) (ho := SetO cl.w ad (fun j => s2.1 j || decide (j = k0)) (if s2.1 k0 = true then s2.2 else s2.2 + 1)) (stO_eq g2) (m2.le _ _ ra) upd_same
      refine ⟨ad, k0, s2.1, s2.2, rfl, rfl, by rw [← hw]; exact hx, hl, ?_⟩
      rw [← hw]
      exact k _ _ _ S3 ((m1.trans m2).trans m3) rv_non
    · cases h
  | _ => cases h
/-! in -/
def tIn5 (X : Cx) (neg : Bool) (ty td : TE) : TE := fun σ H Q => tIn3 X neg ty td σ H Q ∨ (tOp (rIn X.K neg) ty td σ H Q ∨ tOp (if neg = true then rSNotIn X.w else rSIn X.w) ty td σ H Q)
theorem flA_rv {ρ : Rho} {H : Hp} {x : AV} {c : V} (r : RV K ρ H x c) (h : flA x = true) : flatV c = true := by
  cases x <;> first | (cases h; done) | (rw [RV] at r; subst r; rfl)
theorem eqA_rv {ρ : Rho} {H : Hp} {x y : AV} {c d : V} (r : RV K ρ H x c) (s : RV K ρ H y d) (h : flA x = true) (h' : flA y = true) : eqV d c = eqA y x := by
  cases x <;> cases y <;> first | (cases h; done) | (cases h'; done) | (rw [RV] at r; rw [RV] at s; subst r; subst s; first | rfl | skip)
  rename_i a b
  show (Str.ofString b == Str.ofString a) = (b == a)
  by_cases e : b = a
  · rw [e, beq_self_eq_true, beq_self_eq_true]
  · have h1 : (Str.ofString b == Str.ofString a) = false := beq_eq_false_iff_ne.mpr fun z => e (ofString_inj z)
    have h2 : (b == a) = false := beq_eq_false_iff_ne.mpr e
    rw [h1, h2]
theorem allA_rv {ρ : Rho} {H : Hp} : ∀ {xs : List AV} {cs : List V}, RVs K ρ H xs cs → xs.all flA = true → cs.all flatV = true
  | [], _, r, _ => by rw [RVs] at r; subst r; rfl
  | x :: xs, _, r, h => by
    rw [RVs] at r
    obtain ⟨c, cs, rfl, r1, r2⟩ := r
    rw [List.all_cons, Bool.and_eq_true] at h ⊢
    exact ⟨flA_rv r1 h.1, allA_rv r2 h.2⟩
theorem anyA_rv {ρ : Rho} {H : Hp} {x : AV} {c : V} (r : RV K ρ H x c) (hx : flA x = true) : ∀ {xs : List AV} {cs : List V}, RVs K ρ H xs cs → xs.all flA = true → inV c cs = xs.any fun y => eqA y x
  | [], _, r2, _ => by rw [RVs] at r2; subst r2; rfl
  | y :: ys, _, r2, h => by
    rw [RVs] at r2
    obtain ⟨d, ds, rfl, r3, r4⟩ := r2
    rw [List.all_cons, Bool.and_eq_true] at h
    have := anyA_rv r hx r4 h.2
    unfold inV at this ⊢
    rw [List.any_cons, List.any_cons, this, eqA_rv r r3 hx h.1]
theorem sim_in5 {neg : Bool} {ty td : TE} {a b : AE} (hP : cl.P = X.prog) (hw : cl.w = X.w) (ha : SimE X.K cl ty a) (hb : SimE X.K cl td b) : SimE X.K cl (tIn5 X neg ty td) (eBin (oInY neg) a b) := by
  intro ρ M H σ c v M' S R h Q k
  have h0 := h
  obtain ⟨⟨x, M1⟩, e1, h⟩ := Option.bind_eq_some_iff.mp h
  obtain ⟨⟨y, N2⟩, e2, h⟩ := Option.bind_eq_some_iff.mp h
  obtain ⟨z, e3, h⟩ := Option.map_eq_some_iff.mp h
  cases h
  dsimp only at e3
  have old : inC x y N2 = inB x y N2 → tIn5 X neg ty td c H Q := fun e => by
    refine .inl (sim_in3 hP hw ha hb S R (v := .bl (neg ^^ z)) (M' := N2) ?_ Q k)
    show (a σ M).bind _ = _
    rw [e1]
    show (b σ M1).bind _ = _
    rw [e2]
    show (inB x y N2).map _ = _
    rw [← e, e3]
    rfl
  have new : ∀ (r : R2), (∀ ρ2 H2 w1 w2, Sm X.K cl ρ2 N2 H2 → RV X.K ρ2 H2 x w1 → RV X.K ρ2 H2 y w2 → Mo ρ H ρ2 H2 → (∀ z', z' = z → Q (.bl (neg ^^ z')) H2) → r w1 w2 H2 Q) → tOp r ty td c H Q := fun r hr => by
    refine ha S R e1 _ fun ρ1 H1 w1 S1 m1 r1 => ?_
    refine hb S1 (R.mo m1) e2 _ fun ρ2 H2 w2 S2 m2 r2 => ?_
    exact hr ρ2 H2 w1 w2 S2 (r1.mo m2) r2 (m1.trans m2) fun z' e => by subst e; exact k _ _ _ S2 (m1.trans m2) (rv_bl _)
  unfold inC at e3
  cases y with
  | tup xs =>
    dsimp only at e3
    split at e3
    case isFalse => cases e3
    rename_i hf
    cases e3
    refine .inr (.inl (new _ fun ρ2 H2 w1 w2 S2 r1 r2 m kk => ?_))
    rw [RV] at r2
    obtain ⟨ad, cs, rfl, g, rs⟩ := r2
    refine ⟨ad, cs, rfl, .inr g.sqt, flA_rv r1 hf.1, allA_rv rs hf.2, ?_⟩
    have e := anyA_rv r1 hf.1 rs hf.2
    cases neg with
    | false => rw [if_neg Bool.false_ne_true, e]; have := kk _ rfl; rwa [Bool.false_xor] at this
    | true => rw [if_pos rfl, e]; have := kk _ rfl; rwa [Bool.true_xor] at this
  | ref n =>
    dsimp only at e3
    split at e3
    · rename_i S0 n0 g
      cases x with
      | int i =>
        cases e3
        refine .inr (.inr (new _ fun ρ2 H2 w1 w2 S2 r1 r2 m kk => ?_))
        rw [RV] at r1
        rw [RV] at r2
        subst r1
        obtain ⟨ad, rfl, ra⟩ := r2
        have g2 : H2 ad = some (SetO X.w ad S0 n0) := by
          have := st_sim (p := (S0, n0)) S2 ra (by rw [g]; rfl)
          rw [← hw]
          exact this
        cases neg with
        | false => exact ⟨i, ad, S0, n0, rfl, rfl, g2, by have := kk _ rfl; rwa [Bool.false_xor] at this⟩
        | true => exact ⟨i, ad, S0, n0, rfl, rfl, g2, by have := kk _ rfl; rwa [Bool.true_xor] at this⟩
      | _ => cases e3
    · rename_i hn
      refine old ?_
      unfold inC
      dsimp only
      split
      · rename_i q; exact absurd q (hn _ _)
      · rfl
  | _ => exact old rfl
theorem pe_in5 {a b : Expr} {ty td : TE} {pos : Pos} (hu : X.A.units + 65 < cLine) (ha : PE X a ty) (hb : PE X b td) (hm : behindInMarks .In b = false) : PE X (.Compare a [.In] [b] pos) (tIn5 X false ty td) := by
  refine PE.or (pe_cmp (pc_in3 hu ha hb) hm) (PE.or (pe_cmpR op_in_seq ha hb hm) ?_)
  exact pe_cmpR or_sin ha hb hm
theorem pe_nin5 {a b : Expr} {ty td : TE} {pos : Pos} (hu : X.A.units + 65 < cLine) (ha : PE X a ty) (hb : PE X b td) (hm : behindInMarks .NotIn b = false) : PE X (.Compare a [.NotIn] [b] pos) (tIn5 X true ty td) := by
  refine PE.or (pe_cmp (pc_nin3 hu ha hb) hm) (PE.or (pe_cmpR op_notIn_seq ha hb hm) ?_)
  exact pe_cmpR or_snotin ha hb hm
theorem PT.or {e : Expr} {t u : TT} (h : PT X e t) (h' : PT X e u) : PT X e (fun σ H Q => t σ H Q ∨ u σ H Q) := ⟨fun pins s σ H Q I q => q.elim (h.run pins s σ H Q I) (h'.run pins s σ H Q I)⟩
/-! methods of lists -/
theorem erase_idx {k : Int} : ∀ {ns : List Int}, k ∈ ns → ∃ j, ns[j]? = some k ∧ (∀ m : Nat, m < j → ns[m]? ≠ some k) ∧ ns.erase k = ns.eraseIdx j
  | n :: ns, h => by
    by_cases e : n = k
    · subst e
      exact ⟨0, rfl, fun m hm => by omega, by simp⟩
    · have h' : k ∈ ns := by
        rcases List.mem_cons.mp h with z | z
        · exact absurd z.symm e
        · exact z
      obtain ⟨j, h1, h2, h3⟩ := erase_idx h'
      refine ⟨j + 1, by simpa using h1, fun m hm => ?_, ?_⟩
      · cases m with
        | zero => simpa using e
        | succ m => simpa using h2 m (by omega)
      · rw [List.erase_cons_tail (by simpa using e), h3]; rfl
theorem simm_remove : SimM K cl rRemI mRemove := by
  intro ρ M H x xs c cs v M' S r rs h Q k
  unfold mRemove at h
  split at h
  · rename_i n k0
    obtain ⟨zs, e1, h⟩ := Option.bind_eq_some_iff.mp h
    obtain ⟨ns, e2, h⟩ := Option.bind_eq_some_iff.mp h
    split at h
    case isFalse => cases h
    rename_i hm
    cases h
    obtain ⟨d, rfl, r1⟩ := rvs1 rs
    rw [RV] at r1
    subst r1
    have e3 := intsOf_eq e2
    subst e3
    obtain ⟨a, ds, rfl, ra, g, rz⟩ := ref_lst S r e1
    have := rz.ints
    subst this
    obtain ⟨j, h1, h2, h3⟩ := erase_idx hm
    obtain ⟨S', m⟩ := set_lst S e1 ra (RVs.of_ints (ns.erase k0))
    refine ⟨a, ns, k0, j, rfl, rfl, g, h1, h2, ?_⟩
    rw [← h3]
    exact k _ _ _ S' m rv_non
  · cases h
theorem simm_clear : SimM K cl rClear mClear := by
  intro ρ M H x xs c cs v M' S r rs h Q k
  unfold mClear at h
  split at h
  · obtain ⟨zs, e1, h⟩ := Option.bind_eq_some_iff.mp h
    cases h
    rw [RVs] at rs
    subst rs
    obtain ⟨a, ds, rfl, ra, g, rz⟩ := ref_lst S r e1
    obtain ⟨S', m⟩ := set_lst S e1 ra (RVs.nil)
    exact ⟨a, ds, rfl, rfl, g, k _ _ _ S' m rv_non⟩
  · cases h
theorem simm_extend : SimM K cl rExtend mExtend := by
  intro ρ M H x xs c cs v M' S r rs h Q k
  unfold mExtend at h
  split at h
  · obtain ⟨zs, e1, h⟩ := Option.bind_eq_some_iff.mp h
    obtain ⟨ys, e2, h⟩ := Option.bind_eq_some_iff.mp h
    split at h
    case isFalse => cases h
    rename_i hl
    cases h
    obtain ⟨d, rfl, r1⟩ := rvs1 rs
    obtain ⟨a, ds, rfl, ra, g, rz⟩ := ref_lst S r e1
    obtain ⟨b, es, rfl, rb, g2, ry⟩ := ref_lst S r1 e2
    obtain ⟨S', m⟩ := set_lst S e1 ra (rz.append ry)
    exact ⟨a, b, ds, es, rfl, rfl, g, g2, by rw [rz.length, ry.length]; exact le_sizeLine hl, k _ _ _ S' m rv_non⟩
  · cases h
theorem RVs.rev {ρ : Rho} {H : Hp} : ∀ {xs : List AV} {cs : List V}, RVs K ρ H xs cs → RVs K ρ H xs.reverse cs.reverse
  | [], _, h => by rw [RVs] at h; subst h; exact RVs.nil
  | x :: xs, _, h => by
    rw [RVs] at h
    obtain ⟨c, r, rfl, h1, h2⟩ := h
    rw [List.reverse_cons, List.reverse_cons]
    exact (RVs.rev h2).append (RVs.cons h1 RVs.nil)
theorem sim_rev {te : TE} {a : AE} (ha : SimE K cl te a) : SimE K cl (tRevL K te) (eRev a) := by
  intro ρ M H σ c v M' S R h Q k
  obtain ⟨⟨x, M1⟩, e1, h⟩ := Option.bind_eq_some_iff.mp h
  refine ha S R e1 _ fun ρ1 H1 w1 S1 m1 r1 => ?_
  cases x with
  | ref n =>
    obtain ⟨xs, e2, h⟩ := Option.map_eq_some_iff.mp h
    cases h
    obtain ⟨ad, ds, rfl, ra, g, rz⟩ := ref_lst S1 r1 e2
    refine ⟨ad, ds, rfl, .inl (.inl g), fun p hp => ?_⟩
    have rr : RVs K ρ1 H1 xs.reverse ds.reverse := rz.rev
    obtain ⟨ρ', S', m', r'⟩ := new_lst S1 rr hp
    exact k _ _ _ S' (m1.trans m') r'
  | _ => cases h
/-! comprehensions -/
def setAV : List Nat → List AV → ASt → ASt
  | i :: is, x :: xs, σ => setAV is xs (σ.set i (some x))
  | _, _, σ => σ
def setV : List Nat → List V → L2.St → L2.St
  | i :: is, x :: xs, σ => setV is xs (σ.set i (some x))
  | _, _, σ => σ
theorem goT_names : ∀ {is : List Nat} {xs : List AV} {σ σ' : ASt}, goT (is.map aName) xs σ = some σ' → xs.length = is.length ∧ σ' = setAV is xs σ
  | [], [], _, _, h => by cases h; exact ⟨rfl, rfl⟩
  | [], _ :: _, _, _, h => by cases h
  | _ :: _, [], _, _, h => by cases h
  | i :: is, x :: xs, σ, σ', h => by
    have h : goT (is.map aName) xs (σ.set i (some x)) = some σ' := h
    obtain ⟨h1, h2⟩ := goT_names h
    exact ⟨by rw [List.length_cons, List.length_cons, h1], h2⟩
def namesT : List Nat → TGs
  | [] => gNil
  | i :: is => gCons (gName i) (namesT is)
theorem namesT_go : ∀ {is : List Nat} {cs : List V} {σ : L2.St} {H : Hp} {Q : L2.St → Hp → Prop}, cs.length = is.length → Q (setV is cs σ) H → namesT is cs σ H Q
  | [], [], _, _, _, _, h => ⟨rfl, h⟩
  | [], _ :: _, _, _, _, l, _ => by cases l
  | _ :: _, [], _, _, _, l, _ => by cases l
  | i :: is, c :: cs, σ, H, Q, l, h => ⟨c, cs, rfl, namesT_go (is := is) (σ := σ.set i (some c)) (by simpa using l) h⟩
theorem RS.setAll {ρ : Rho} {H : Hp} : ∀ {is : List Nat} {xs : List AV} {cs : List V} {σ : ASt} {c : L2.St}, RVs K ρ H xs cs → RS K ρ H σ c → RS K ρ H (setAV is xs σ) (setV is cs c)
  | [], _, _, _, _, _, R => R
  | _ :: _, [], _, _, _, h, R => by rw [RVs] at h; subst h; exact R
  | i :: is, x :: xs, _, _, _, h, R => by
    rw [RVs] at h
    obtain ⟨d, ds, rfl, h1, h2⟩ := h
    exact RS.setAll (is := is) h2 (RS.set (x := some x) (y := some d) h1 i R)
/-- slot j of the slots, all of is being set -/
theorem setV_at : ∀ {is : List Nat} {cs : List V} {c c' : L2.St} {j : Nat}, cs.length = is.length → c.length = c'.length → (j ∈ is ∨ c[j]? = c'[j]?) → (setV is cs c)[j]? = (setV is cs c')[j]?
  | [], [], _, _, _, _, _, h => by rcases h with h | h; cases h; exact h
  | [], _ :: _, _, _, _, l, _, _ => by cases l
  | _ :: _, [], _, _, _, l, _, _ => by cases l
  | i :: is, d :: ds, c, c', j, l, e, h => by
    refine setV_at (is := is) (cs := ds) (by simpa using l) (by rw [List.length_set, List.length_set, e]) ?_
    rcases h with h | h
    · rcases List.mem_cons.mp h with rfl | h
      · right
        rw [List.getElem?_set, List.getElem?_set, if_pos rfl, if_pos rfl, e]
      · exact .inl h
    · right
      rw [List.getElem?_set, List.getElem?_set, e, h]
theorem wipe_at : ∀ {is : List Nat} {c : L2.St} {j : Nat}, j ∉ is → (wipe c is)[j]? = c[j]?
  | [], _, _, _ => rfl
  | i :: is, c, j, h => by
    show ((wipe c is).set i none)[j]? = _
    rw [List.getElem?_set, if_neg (fun z => h (by rw [← z]; exact List.mem_cons_self))]
    exact wipe_at fun z => h (List.mem_cons_of_mem _ z)
theorem wipe_at2 : ∀ {is : List Nat} {c : L2.St} {j : Nat}, j ∈ is → (wipe c is)[j]? = if j < c.length then some none else none
  | i :: is, c, j, h => by
    show ((wipe c is).set i none)[j]? = _
    rw [List.getElem?_set, wipe_length]
    by_cases e : i = j
    · rw [if_pos e, e]
    · rw [if_neg e]
      rcases List.mem_cons.mp h with z | z
      · exact absurd z.symm e
      · exact wipe_at2 z
theorem setV_len : ∀ {is : List Nat} {cs : List V} {c : L2.St}, (setV is cs c).length = c.length
  | [], _, _ => rfl
  | _ :: _, [], _ => rfl
  | i :: is, d :: ds, c => by show (setV is ds (c.set i (some d))).length = _; rw [setV_len, List.length_set]
theorem setV_out : ∀ {is : List Nat} {cs : List V} {c : L2.St} {j : Nat}, j ∉ is → (setV is cs c)[j]? = c[j]?
  | [], _, _, _, _ => rfl
  | _ :: _, [], _, _, _ => rfl
  | i :: is, d :: ds, c, j, h => by
    show (setV is ds (c.set i (some d)))[j]? = _
    rw [setV_out (fun z => h (List.mem_cons_of_mem _ z)), List.getElem?_set, if_neg (fun z => h (by rw [← z]; exact List.mem_cons_self))]
theorem setV_wipe {is : List Nat} {cs : List V} {c : L2.St} (l : cs.length = is.length) : setV is cs (wipe c is) = setV is cs c := by
  refine List.ext_getElem? fun j => ?_
  refine setV_at l (wipe_length _ _) ?_
  by_cases h : j ∈ is
  · exact .inl h
  · exact .inr (wipe_at h)
theorem wipe_set {is : List Nat} {cs : List V} {c : L2.St} : wipe (setV is cs c) is = wipe c is := by
  refine List.ext_getElem? fun j => ?_
  by_cases h : j ∈ is
  · rw [wipe_at2 h, wipe_at2 h, setV_len]
  · rw [wipe_at h, wipe_at h, setV_out h]
theorem wipe_wipe {is : List Nat} {c : L2.St} : wipe (wipe c is) is = wipe c is := by
  refine List.ext_getElem? fun j => ?_
  by_cases h : j ∈ is
  · rw [wipe_at2 h, wipe_at2 h, wipe_length]
  · rw [wipe_at h]
theorem sim_lcT {wi : TI} {it : AI} {is : List Nat} {tt : TT} {te : TE} {q : AT} {a : AE} (hi : SimI K cl wi it) (ht : SimT K cl tt q) (ha : SimE K cl te a) : SimE K cl (tLc wi (gTup K is.length (namesT is)) tt te is) (eLcG it (aTup (is.map aName)) q a) := by
  intro ρ M H σ c v M' S R h Q k
  obtain ⟨⟨I, M1⟩, e1, h⟩ := Option.bind_eq_some_iff.mp h
  obtain ⟨Mf, e2, h⟩ := Option.map_eq_some_iff.mp h
  cases h
  refine hi S R e1 _ fun ρ1 H1 J S1 m1 hJ => ?_
  intro D hD
  obtain ⟨ρ0, S0, m0, r0⟩ := new_lst S1 (xs := []) RVs.nil hD
  rw [RV] at r0
  obtain ⟨D', e, rD⟩ := r0
  cases e
  dsimp only at e2
  refine ⟨fun j m H' => ∃ ρ2 M2, Sm K cl ρ2 M2 H' ∧ Mo ρ0 (upd H1 D (.lst [])) ρ2 H' ∧ m = (I.all.drop j).length ∧ lcGoG M1.next I.ok (aTup (is.map aName)) q a σ (I.all.drop j) M2 = some M', ⟨_, ρ0, _, S0, Mo.refl _ _, rfl, e2⟩, ?_⟩
  rintro j m H2 ⟨ρ2, M2, S2, m2, rfl, h2⟩
  have R2 : RS K ρ2 H2 σ c := R.mo ((m1.trans m0).trans m2)
  cases hx : I.all[j]? with
  | none =>
    have hd : I.all.drop j = [] := List.drop_eq_nil_of_le (List.getElem?_eq_none_iff.mp hx)
    rw [hd] at h2
    unfold lcGoG at h2
    split at h2
    · rename_i hok
      cases h2
      exact .inl ⟨(hJ j S2 (m0.trans m2) hok).1 hx, k _ _ _ S2 ((m1.trans m0).trans m2) (by rw [RV]; exact ⟨D, rfl, m2.le _ _ rD⟩)⟩
    · cases h2
  | some x =>
    have hlt := (List.getElem?_eq_some_iff.mp hx).1
    have hd : I.all.drop j = x :: I.all.drop (j + 1) := by
      rw [List.drop_eq_getElem_cons hlt]
      rw [(List.getElem?_eq_some_iff.mp hx).2]
    rw [hd] at h2
    unfold lcGoG at h2
    split at h2
    case isFalse => cases h2
    rename_i hok
    obtain ⟨σ1, e0, h2⟩ := Option.bind_eq_some_iff.mp h2
    obtain ⟨⟨b, M4⟩, e3, h2⟩ := Option.bind_eq_some_iff.mp h2
    obtain ⟨go, yld⟩ := (hJ j S2 (m0.trans m2) hok).2 x hx
    refine .inr ⟨go, fun H5 => ∃ ρ5 M5, Sm K cl ρ5 M5 H5 ∧ Mo ρ0 (upd H1 D (.lst [])) ρ5 H5 ∧ lcGoG M1.next I.ok (aTup (is.map aName)) q a σ (I.all.drop (j + 1)) M5 = some M', ?_, ?_⟩
    · rintro H5 ⟨ρ5, M5, S5, m5, h5⟩
      exact ⟨(I.all.drop (j + 1)).length, by rw [hd, List.length_cons]; omega, ρ5, M5, S5, m5, rfl, h5⟩
    · intro y H3 hy
      obtain ⟨ρ3, S3, m3, r3⟩ := yld y H3 hy
      cases x with
      | tup xs =>
        have e0 : goT (is.map aName) xs σ = some σ1 := e0
        obtain ⟨hl, rfl⟩ := goT_names e0
        rw [RV] at r3
        obtain ⟨ad, cs, rfl, g, rs⟩ := r3
        have hcl : cs.length = is.length := by rw [rs.length, hl]
        refine ⟨ad, cs, rfl, g.sqt, hcl, namesT_go hcl ?_⟩
        refine ⟨by rw [wipe_set, wipe_wipe], ?_⟩
        rw [setV_wipe hcl]
        have R3 : RS K ρ3 H3 (setAV is xs σ) (setV is cs c) := RS.setAll rs (R2.mo m3)
        refine ht S3 R3 e3 _ fun ρ4 H4 S4 m4 => ?_
        cases b with
        | false =>
          rw [if_neg (by simp)] at h2
          exact ⟨ρ4, M4, S4, (m2.trans m3).trans m4, h2⟩
        | true =>
          rw [if_pos rfl] at h2
          obtain ⟨⟨z, M5⟩, e4, h2⟩ := Option.bind_eq_some_iff.mp h2
          obtain ⟨acc, e5, h2⟩ := Option.bind_eq_some_iff.mp h2
          split at h2
          case isFalse => cases h2
          rename_i hl2
          refine ha S4 (R3.mo m4) e4 _ fun ρ5 H5 w5 S5 m5 r5 => ?_
          have mm := ((m2.trans m3).trans m4).trans m5
          have rD5 : RV K ρ5 H5 (.ref M1.next) (.ref D) := by rw [RV]; exact ⟨D, rfl, mm.le _ _ rD⟩
          obtain ⟨a', cs2, ea, ra, g2, rs2⟩ := ref_lst S5 rD5 e5
          cases ea
          obtain ⟨S6, m6⟩ := set_lst S5 e5 ra (rs2.append (RVs.cons r5 RVs.nil))
          exact ⟨cs2, g2, by rw [rs2.length]; exact lt_sizeLine hl2, ρ5, _, S6, mm.trans m6, h2⟩
      | _ => cases e0
theorem sim_lc2 {wi wi1 : TI} {it it1 : AI} {i j : Nat} {te : TE} {a : AE} (hij : i ≠ j) (hi : SimI K cl wi it) (hi1 : SimI K cl wi1 it1) (ha : SimE K cl te a) : SimE K cl (tLc2 wi (gName i) tYes wi1 (gName j) tYes te [i, j] [j]) (eLc2 it i it1 j a) := by
  intro ρ M H σ c v M' S R h Q k
  obtain ⟨⟨I, M1⟩, e1, h⟩ := Option.bind_eq_some_iff.mp h
  obtain ⟨Mf, e2, h⟩ := Option.map_eq_some_iff.mp h
  cases h
  refine hi S R e1 _ fun ρ1 H1 J S1 m1 hJ => ?_
  intro D hD
  obtain ⟨ρ0, S0, m0, r0⟩ := new_lst S1 (xs := []) RVs.nil hD
  rw [RV] at r0
  obtain ⟨D', e, rD⟩ := r0
  cases e
  dsimp only at e2
  refine ⟨fun n m H' => ∃ ρ2 M2, Sm K cl ρ2 M2 H' ∧ Mo ρ0 (upd H1 D (.lst [])) ρ2 H' ∧ m = (I.all.drop n).length ∧ lcGo2 M1.next I.ok i j it1 a σ (I.all.drop n) M2 = some M', ⟨_, ρ0, _, S0, Mo.refl _ _, rfl, e2⟩, ?_⟩
  rintro n m H2 ⟨ρ2, M2, S2, m2, rfl, h2⟩
  have R2 : RS K ρ2 H2 σ c := R.mo ((m1.trans m0).trans m2)
  cases hx : I.all[n]? with
  | none =>
    have hd : I.all.drop n = [] := List.drop_eq_nil_of_le (List.getElem?_eq_none_iff.mp hx)
    rw [hd] at h2
    unfold lcGo2 at h2
    split at h2
    · rename_i hok
      cases h2
      exact .inl ⟨(hJ n S2 (m0.trans m2) hok).1 hx, k _ _ _ S2 ((m1.trans m0).trans m2) (by rw [RV]; exact ⟨D, rfl, m2.le _ _ rD⟩)⟩
    · cases h2
  | some x =>
    have hlt := (List.getElem?_eq_some_iff.mp hx).1
    have hd : I.all.drop n = x :: I.all.drop (n + 1) := by
      rw [List.drop_eq_getElem_cons hlt]
      rw [(List.getElem?_eq_some_iff.mp hx).2]
    rw [hd] at h2
    unfold lcGo2 at h2
    split at h2
    case isFalse => cases h2
    rename_i hok
    obtain ⟨⟨I1, M4⟩, e3, h2⟩ := Option.bind_eq_some_iff.mp h2
    obtain ⟨M5, e4, h2⟩ := Option.bind_eq_some_iff.mp h2
    obtain ⟨go, yld⟩ := (hJ n S2 (m0.trans m2) hok).2 x hx
    refine .inr ⟨go, fun H5 => ∃ ρ5 M5, Sm K cl ρ5 M5 H5 ∧ Mo ρ0 (upd H1 D (.lst [])) ρ5 H5 ∧ lcGo2 M1.next I.ok i j it1 a σ (I.all.drop (n + 1)) M5 = some M', ?_, ?_⟩
    · rintro H5 ⟨ρ5, M5, S5, m5, h5⟩
      exact ⟨(I.all.drop (n + 1)).length, by rw [hd, List.length_cons]; omega, ρ5, M5, S5, m5, rfl, h5⟩
    · intro y H3 hy
      obtain ⟨ρ3, S3, m3, r3⟩ := yld y H3 hy
      have ew : wipe c [i, j] = (c.set j none).set i none := rfl
      show wipe ((wipe c [i, j]).set i (some y)) [i, j] = wipe c [i, j] ∧ tYes ((wipe c [i, j]).set i (some y)) H3 _
      have e5 : (wipe c [i, j]).set i (some y) = (c.set j none).set i (some y) := by rw [ew, List.set_set]
      rw [e5]
      have e6 : wipe ((c.set j none).set i (some y)) [i, j] = wipe c [i, j] := by
        show ((((c.set j none).set i (some y)).set j none).set i none) = (c.set j none).set i none
        rw [List.set_comm _ _ hij, List.set_set, List.set_set]
      refine ⟨e6, ?_⟩
      change wi1 _ _ _
      have R3 : RS K ρ3 H3 ((σ.set j none).set i (some x)) ((c.set j none).set i (some y)) := RS.set (x := some x) (y := some y) r3 i (RS.set (x := none) (y := none) trivial j (R2.mo m3))
      refine hi1 S3 R3 e3 _ fun ρ4 H4 J1 S4 m4 hJ1 => ?_
      have RR : ∀ {ρ6 H6}, Mo ρ4 H4 ρ6 H6 → RS K ρ6 H6 ((σ.set j none).set i (some x)) ((c.set j none).set i (some y)) := fun m => R3.mo (m4.trans m)
      refine ⟨fun n1 m1' H' => ∃ ρ6 M6, Sm K cl ρ6 M6 H' ∧ Mo ρ4 H4 ρ6 H' ∧ m1' = (I1.all.drop n1).length ∧ lcIn M1.next I1.ok j a ((σ.set j none).set i (some x)) (I1.all.drop n1) M6 = some M5, ⟨_, ρ4, _, S4, Mo.refl _ _, rfl, e4⟩, ?_⟩
      rintro n1 m1' H6 ⟨ρ6, M6, S6, m6, rfl, h6⟩
      have mm6 := ((m2.trans m3).trans m4).trans m6
      cases hx1 : I1.all[n1]? with
      | none =>
        have hd1 : I1.all.drop n1 = [] := List.drop_eq_nil_of_le (List.getElem?_eq_none_iff.mp hx1)
        rw [hd1] at h6
        unfold lcIn at h6
        split at h6
        · rename_i hok1
          cases h6
          exact .inl ⟨(hJ1 n1 S6 m6 hok1).1 hx1, ρ6, _, S6, mm6, h2⟩
        · cases h6
      | some z =>
        have hlt1 := (List.getElem?_eq_some_iff.mp hx1).1
        have hd1 : I1.all.drop n1 = z :: I1.all.drop (n1 + 1) := by
          rw [List.drop_eq_getElem_cons hlt1]
          rw [(List.getElem?_eq_some_iff.mp hx1).2]
        rw [hd1] at h6
        unfold lcIn at h6
        split at h6
        case isFalse => cases h6
        rename_i hok1
        obtain ⟨⟨u, M7⟩, e7, h6⟩ := Option.bind_eq_some_iff.mp h6
        obtain ⟨acc, e8, h6⟩ := Option.bind_eq_some_iff.mp h6
        split at h6
        case isFalse => cases h6
        rename_i hl2
        obtain ⟨go1, yld1⟩ := (hJ1 n1 S6 m6 hok1).2 z hx1
        refine .inr ⟨go1, fun H9 => ∃ ρ9 M9, Sm K cl ρ9 M9 H9 ∧ Mo ρ4 H4 ρ9 H9 ∧ lcIn M1.next I1.ok j a ((σ.set j none).set i (some x)) (I1.all.drop (n1 + 1)) M9 = some M5, ?_, ?_⟩
        · rintro H9 ⟨ρ9, M9, S9, m9, h9⟩
          exact ⟨(I1.all.drop (n1 + 1)).length, by rw [hd1, List.length_cons]; omega, ρ9, M9, S9, m9, rfl, h9⟩
        · intro y1 H9 hy1
          obtain ⟨ρ9, S9, m9, r9⟩ := yld1 y1 H9 hy1
          have w1 : ∀ s : L2.St, wipe s [j] = s.set j none := fun _ => rfl
          show wipe ((wipe ((c.set j none).set i (some y)) [j]).set j (some y1)) [j] = wipe ((c.set j none).set i (some y)) [j] ∧ tYes ((wipe ((c.set j none).set i (some y)) [j]).set j (some y1)) H9 _
          rw [w1, w1, List.set_set]
          refine ⟨by rw [List.set_set], ?_⟩
          change te _ _ _
          rw [List.set_set]
          have R9 : RS K ρ9 H9 (((σ.set j none).set i (some x)).set j (some z)) (((c.set j none).set i (some y)).set j (some y1)) := RS.set (x := some z) (y := some y1) r9 j (RR (m6.trans m9))
          refine ha S9 R9 e7 _ fun ρ7 H7 w7 S7 m7 r7 => ?_
          have mm := (mm6.trans m9).trans m7
          have rD7 : RV K ρ7 H7 (.ref M1.next) (.ref D) := by rw [RV]; exact ⟨D, rfl, mm.le _ _ rD⟩
          obtain ⟨a', cs2, ea, ra, g2, rs2⟩ := ref_lst S7 rD7 e8
          cases ea
          obtain ⟨S8, m8⟩ := set_lst S7 e8 ra (rs2.append (RVs.cons r7 RVs.nil))
          exact ⟨cs2, g2, by rw [rs2.length]; exact lt_sizeLine hl2, ρ7, _, S8, ((m6.trans m9).trans m7).trans m8, h6⟩
theorem sim_lcD {i x : Nat} {tt : TT} {te : TE} {q : AT} {a : AE} (ht : SimT K cl tt q) (ha : SimE K cl te a) : SimE K cl (tLockE (tLc (iKeys (tVar i)) (gName x) tt te [x])) (eLcD i x q a) := by
  intro ρ M H σ c v M' S R h Q k
  unfold eLcD at h
  split at h
  · rename_i n e
    split at h
    · rename_i kvs gg
      obtain ⟨⟨v1, M1⟩, e1, h⟩ := Option.bind_eq_some_iff.mp h
      cases h
      obtain ⟨y, e2, r⟩ := R.get e
      rw [RV] at r
      obtain ⟨ad, rfl, ra⟩ := r
      obtain ⟨a', ra', cs, g1, g2⟩ := S.obj gg
      rw [ra] at ra'
      cases ra'
      refine ⟨ad, .dK cs, g1, trivial, fun od => ?_⟩
      have hi : ∀ u, H ad = some u → ¬ Imm u := fun u z => by rw [g1] at z; cases z; exact fun z => z
      have mo : Mo ρ H ρ (upd H ad (.frz od (.dK cs))) := mo_upd hi
      obtain ⟨S1, m1⟩ := S.upd (o' := .lK kvs) (ho := .frz od (.dK cs)) gg ra ⟨od, cs, upd_same, g2.mo mo⟩
      refine sim_lc simi_lk ht ha S1 (R.mo m1) e1 _ fun ρ2 H2 w2 S2 m2 r2 => ?_
      have ea : H2 ad = some (.frz od (.dK cs)) := m2.keep _ _ trivial upd_same
      have w0 : Mo0 ρ2 H2 ρ2 (upd H2 ad (.dK cs)) := ⟨fun _ _ h => h, fun b o i e => by
        by_cases q : b = ad
        · subst q; rw [ea] at e; cases e; exact i.elim
        · rw [upd_ne q]; exact e⟩
      have mf : Mo ρ H ρ2 (upd H2 ad (.dK cs)) := ⟨fun n b z => m2.le _ _ (m1.le _ _ z), fun b o i e => by
        by_cases q : b = ad
        · subst q; exact absurd i (hi _ e)
        · rw [upd_ne q]; exact m2.keep _ _ i (by rw [upd_ne q]; exact e)⟩
      have S3 : Sm K cl ρ2 (M1.set n (.dK kvs)) (upd H2 ad (.dK cs)) := by
        refine ⟨S2.inj, S2.dom, fun {m2' w} e => ?_, fun {m2' b} e => ?_, tab_upd S2.tab (by rw [ea]; exact fun ps z => nomatch z)⟩
        · by_cases q : m2' = n
          · subst q
            have e' : some (AO.dK kvs) = some w := by simpa [AH.set] using e
            cases e'
            exact ⟨ad, m2.le _ _ (m1.le _ _ ra), cs, upd_same, g2.mo0 mf.weak⟩
          · have e' : M1.get m2' = some w := by simpa [AH.set, q] using e
            obtain ⟨b, rb, x⟩ := S2.obj e'
            have nb : b ≠ ad := fun z => q (S2.inj rb (z ▸ m2.le _ _ (m1.le _ _ ra)))
            exact ⟨b, rb, x.mo0 w0 (upd_ne nb)⟩
        · by_cases q : b = ad
          · subst q; rw [upd_same]; exact fun z => nomatch z
          · rw [upd_ne q]; exact S2.rng e
      exact ⟨ea, k _ _ _ S3 mf (r2.mo0 w0)⟩
    · cases h
  · cases h
theorem simi_rev1 {ta : TE} {a : AE} (ha : SimE K cl ta a) : SimI K cl (iRevR (tRg1 ta)) (itRev1 a) := by
  intro ρ M H σ c I M' S R h Q k
  obtain ⟨⟨vs, M1⟩, e1, h⟩ := Option.bind_eq_some_iff.mp h
  refine ha S R e1 _ fun ρ1 H1 w1 S1 m1 r1 => ?_
  dsimp only at h
  split at h
  · rename_i n
    split at h
    case isFalse => cases h
    rename_i hb
    cases h
    rw [RV] at r1
    subst r1
    refine ⟨n, rfl, by decide, by decide, hb.1, hb.2, k _ _ _ S1 m1 fun ρ2 M2 H2 i S2 m2 _ => ?_⟩
    have e0 : (n - 0).toNat = n.toNat := by rw [Int.sub_zero]
    have len : ((List.range n.toNat).map fun k : Nat => AV.int (k : Int)).length = n.toNat := by rw [List.length_map, List.length_range]
    refine ⟨fun q => ?_, fun x q => ?_⟩
    · have := List.getElem?_eq_none_iff.mp q
      rw [List.length_reverse, len] at this
      show (n - 0).toNat ≤ i
      rw [e0]; exact this
    · have hlt : i < n.toNat := by
        have := (List.getElem?_eq_some_iff.mp q).1
        rwa [List.length_reverse, len] at this
      refine ⟨by show i < _; rw [e0]; exact hlt, fun y H3 hy => ?_⟩
      obtain ⟨rfl, rfl⟩ := hy
      refine ⟨ρ2, S2, Mo.refl _ _, ?_⟩
      rw [List.getElem?_reverse (by rw [len]; exact hlt), len, List.getElem?_map, List.getElem?_range (by omega)] at q
      cases q
      rw [RV, e0]
      congr 1
      omega
  · cases h
end
end Sy
/-! SyM: SyL's judgements. -/
namespace Sy
open PySem L2 PySem.Spec PyProof.Rows
section
variable {X : Cx} {cl : Cle} {pos pos' apos cpos p : Pos} {a b c e o : Expr} {es : List Expr} {ea eb ec : AE} {qa qb qc : AT} {ra : AA} {sa sb : AS} {st : Stmt} {sts sts' : List Stmt}
theorem ae_set0 {x : Str} (hg : Gl X x) (hm : X.mg x = none) (hv : bootBuiltins x = some (.type "set")) (hn : x ≠ "__name__" := by decide) (hdb : (x == ("__debug__" : Str)) = false := by decide) (hw : cl.w = X.w := by rfl) : PEa X cl (.Call (.Name x p) [] [] pos) (eArgs fSet0 gNil') :=
  ⟨_, pe_callTy0 cr_set0 hg hm hv hn hdb, sim_args (simc_set0 _ hw) sim_nil⟩
theorem ae_sadd (ha : PEa X cl o ea) (hb : PAa X cl (e :: es) ra)
    (h : ∀ to t, PE X o to → PA X (e :: es) t → PE X (.Call (.Attribute o (Str.ofString "add") apos) (e :: es) [] cpos) (tSAdd X.w to t)) (hw : cl.w = X.w := by rfl) : PEa X cl (.Call (.Attribute o (Str.ofString "add") apos) (e :: es) [] cpos) (eSAdd ea ra) := by
  obtain ⟨t, a1, a2⟩ := ha
  obtain ⟨u, b1, b2⟩ := hb
  exact ⟨_, h _ _ a1 b1, sim_sadd _ hw a2 b2⟩
theorem ae_in5 (hu : X.A.units + 65 < cLine) (ha : PEa X cl a ea) (hb : PEa X cl b eb) (hm : behindInMarks .In b = false := by with_unfolding_all rfl) (hP : cl.P = X.prog := by rfl) (hw : cl.w = X.w := by rfl) : PEa X cl (.Compare a [.In] [b] pos) (eBin oInC ea eb) := by
  obtain ⟨t, a1, a2⟩ := ha
  obtain ⟨u, b1, b2⟩ := hb
  exact ⟨_, pe_in5 hu a1 b1 hm, by rw [← oInY_f]; exact sim_in5 hP hw a2 b2⟩
theorem ae_nin5 (hu : X.A.units + 65 < cLine) (ha : PEa X cl a ea) (hb : PEa X cl b eb) (hm : behindInMarks .NotIn b = false := by with_unfolding_all rfl) (hP : cl.P = X.prog := by rfl) (hw : cl.w = X.w := by rfl) : PEa X cl (.Compare a [.NotIn] [b] pos) (eBin oNinC ea eb) := by
  obtain ⟨t, a1, a2⟩ := ha
  obtain ⟨u, b1, b2⟩ := hb
  exact ⟨_, pe_nin5 hu a1 b1 hm, by rw [← oInY_t]; exact sim_in5 hP hw a2 b2⟩
theorem pt_in5 {ty td : TE} (hu : X.A.units + 65 < cLine) (ha : PE X a ty) (hb : PE X b td) (hm : behindInMarks .In b = false) (hm2 : behindInMarks .In b = false) : PT X (.Compare a [.In] [b] pos) (tTest (tIn5 X false ty td)) := by
  have h := PT.or (pt_cmp (pos := pos) (pc_in3 hu ha hb) hm) (PT.or (pt_cmpR (pos := pos) op_in_seq ha hb hm) (pt_cmpR (pos := pos) or_sin ha hb hm))
  exact ⟨fun pins s σ H Q I q => h.run pins s σ H Q I q⟩
theorem pt_nin5 {ty td : TE} (hu : X.A.units + 65 < cLine) (ha : PE X a ty) (hb : PE X b td) (hm : behindInMarks .NotIn b = false) : PT X (.Compare a [.NotIn] [b] pos) (tTest (tIn5 X true ty td)) := by
  have h := PT.or (pt_cmp (pos := pos) (pc_nin3 hu ha hb) hm) (PT.or (pt_cmpR (pos := pos) op_notIn_seq ha hb hm) (pt_cmpR (pos := pos) or_snotin ha hb hm))
  exact ⟨fun pins s σ H Q I q => h.run pins s σ H Q I q⟩
theorem at_in5 (hu : X.A.units + 65 < cLine) (ha : PEa X cl a ea) (hb : PEa X cl b eb) (hm : behindInMarks .In b = false := by with_unfolding_all rfl) (hP : cl.P = X.prog := by rfl) (hw : cl.w = X.w := by rfl) : PTa X cl (.Compare a [.In] [b] pos) (qBl (eBin oInC ea eb)) := by
  obtain ⟨t, a1, a2⟩ := ha
  obtain ⟨u, b1, b2⟩ := hb
  exact ⟨_, pt_in5 hu a1 b1 hm hm, sim_test (by rw [← oInY_f]; exact sim_in5 hP hw a2 b2)⟩
theorem at_nin5 (hu : X.A.units + 65 < cLine) (ha : PEa X cl a ea) (hb : PEa X cl b eb) (hm : behindInMarks .NotIn b = false := by with_unfolding_all rfl) (hP : cl.P = X.prog := by rfl) (hw : cl.w = X.w := by rfl) : PTa X cl (.Compare a [.NotIn] [b] pos) (qBl (eBin oNinC ea eb)) := by
  obtain ⟨t, a1, a2⟩ := ha
  obtain ⟨u, b1, b2⟩ := hb
  exact ⟨_, pt_nin5 hu a1 b1 hm, sim_test (by rw [← oInY_t]; exact sim_in5 hP hw a2 b2)⟩
/-! methods of lists -/
theorem ae_lm {nm : String} {f : AM} {r : V → List V → Hp → VK → Prop} (hs : SimM X.K cl r f) (ha : PEa X cl o ea) (hb : PAa X cl (e :: es) ra)
    (h : ∀ to t, PE X o to → PA X (e :: es) t → PE X (.Call (.Attribute o (Str.ofString nm) apos) (e :: es) [] cpos) (tBM X.K "list" r to t)) : PEa X cl (.Call (.Attribute o (Str.ofString nm) apos) (e :: es) [] cpos) (eLM f ea ra) := by
  obtain ⟨t, a1, a2⟩ := ha
  obtain ⟨u, b1, b2⟩ := hb
  exact ⟨_, h _ _ a1 b1, sim_lm hs a2 b2⟩
theorem ae_lm0 {nm : String} {f : AM} {r : V → List V → Hp → VK → Prop} (hs : SimM X.K cl r f) (ha : PEa X cl o ea)
    (h : ∀ to, PE X o to → PE X (.Call (.Attribute o (Str.ofString nm) apos) [] [] cpos) (tBM0 X.K "list" r to)) : PEa X cl (.Call (.Attribute o (Str.ofString nm) apos) [] [] cpos) (eLM f ea gNil') := by
  obtain ⟨t, a1, a2⟩ := ha
  exact ⟨_, h _ a1, sim_lm0 hs a2⟩
theorem ae_rev {k : Nat} {p1 p2 p3 : Pos} (ha : PEa X cl e ea) : PEa X cl (.Subscript e (.Slice none none (some (.UnaryOp .USub (.Constant (.int 1) k p1) p2)) p3) pos) (eRev ea) := by
  obtain ⟨t, a1, a2⟩ := ha
  exact ⟨_, pe_revL a1, sim_rev a2⟩
/-! comprehensions -/
/-- targets written as a tuple -/
theorem ae_lcT (is : List Nat) {xs : List Str} {tg elt iter : Expr} {ifs : List Expr} {scope : Scope} {it : AI} {own : List (Str × Nat)} (hc : X.calm = true) (hN : X.N.Nodup) (hi : PIa X cl tg iter it) (ok : BlkOk X.N X.env.scope scope own)
    (hg : ∀ (s : Shared) (H : Hp) (C : Addr) (cl : List (Str × Addr)) (fp : List Addr), PG (X.blk s H scope (compEnvC scope cl C X.env) fp) tg (gTup X.K is.length (namesT is)))
    (ht : ∀ (s : Shared) (H : Hp) (C : Addr) (cl' : List (Str × Addr)) (fp : List Addr), PTsa (X.blk s H scope (compEnvC scope cl' C X.env) fp) cl ifs qa)
    (he : ∀ (s : Shared) (H : Hp) (C : Addr) (cl' : List (Str × Addr)) (fp : List Addr), PEa (X.blk s H scope (compEnvC scope cl' C X.env) fp) cl elt ea) (hs : ∀ x, foldedSetIterable iter X.env x = pure x := by intro _; rfl) (hown : own.map (·.2) = is := by rfl) :
    PEa X cl (.ListComp elt [⟨tg, iter, ifs, 0⟩] scope pos) (eLcG it (aTup (is.map aName)) qa ea) := by
  obtain ⟨t, a1, a2⟩ := hi
  subst hown
  exact ⟨_, pe_lc hc hN a1 ok hg (fun s H C cl' fp => (ht s H C cl' fp).can) (fun s H C cl' fp => (he s H C cl' fp).can) hs, sim_lcT a2 sim_canT sim_canE⟩
theorem as_setLcT (j : Nat) {y : Str} {py spos : Pos} (is : List Nat) {tg elt iter : Expr} {ifs : List Expr} {scope : Scope} {it : AI} {own : List (Str × Nat)} (hc : X.calm = true) (hN : X.N.Nodup)
    (hsw : swapsWith (.ListComp elt [⟨tg, iter, ifs, 0⟩] scope pos) (some (.Name y py)) spos.line X.env = pure true) (hi : PIa X cl tg iter it) (ok : BlkOk X.N X.env.scope scope own)
    (hg : ∀ (s : Shared) (H : Hp) (C : Addr) (cl : List (Str × Addr)) (fp : List Addr), PG (X.blk s H scope (compEnvC scope cl C X.env) fp) tg (gTup X.K is.length (namesT is)))
    (ht : ∀ (s : Shared) (H : Hp) (C : Addr) (cl' : List (Str × Addr)) (fp : List Addr), PTsa (X.blk s H scope (compEnvC scope cl' C X.env) fp) cl ifs qa)
    (he : ∀ (s : Shared) (H : Hp) (C : Addr) (cl' : List (Str × Addr)) (fp : List Addr), PEa (X.blk s H scope (compEnvC scope cl' C X.env) fp) cl elt ea)
    (hy : X.N[j]? = some y := by rfl) (hyl : X.env.scope.names.lookup y = some .local := by rfl) (hs : ∀ x, foldedSetIterable iter X.env x = pure x := by intro _; rfl) (hown : own.map (·.2) = is := by rfl) :
    PSa X cl (.Assign [.Name y py] (.ListComp elt [⟨tg, iter, ifs, 0⟩] scope pos) spos) (sAsg (eLcG it (aTup (is.map aName)) qa ea) (aName j)) := by
  obtain ⟨t, a1, a2⟩ := hi
  subst hown
  exact ⟨_, ps_setLc hc hN hy hyl hsw a1 ok hg (fun s H C cl' fp => (ht s H C cl' fp).can) (fun s H C cl' fp => (he s H C cl' fp).can) hs, sim_asg (sim_lcT a2 sim_canT sim_canE) sim_name⟩
/-- the one reading that goes with an abstract walk -/
def canI (K : PySem.W.Frag) (cl : Cle) (a : AI) : TI := fun c H R => ∃ ρ M σ I M', Sm K cl ρ M H ∧ RS K ρ H σ c ∧ a σ M = some (I, M') ∧ ∀ ρ' H' J, Sm K cl ρ' M' H' → Mo ρ H ρ' H' → ItR K cl ρ' H' J I → R J H'
theorem sim_canI {K : PySem.W.Frag} {a : AI} : SimI K cl (canI K cl a) a := fun ρ M H σ c I M' S R h Q k => ⟨ρ, M, σ, I, M', S, R, h, k⟩
theorem PIa.can {tg iter : Expr} {it : AI} (h : PIa X cl tg iter it) : PI X tg iter (canI X.K cl it) := by
  obtain ⟨t, h1, h2⟩ := h
  exact ⟨fun pins s σ H R I ⟨ρ, M, σ', J, M', S, RR, e, k⟩ => h1.run pins s σ H R I (h2 S RR e R k)⟩
/-- [e for x in it for y in it1] -/
theorem ae_lc2 (i j : Nat) {x y : Str} {p1 p2 : Pos} {elt iter iter1 : Expr} {scope : Scope} {it it1 : AI} (hij : i ≠ j) (hc : X.calm = true) (hN : X.N.Nodup) (hi : PIa X cl (.Name x p1) iter it) (ok : BlkOk X.N X.env.scope scope [(x, i), (y, j)])
    (hg : ∀ (s : Shared) (H : Hp) (C : Addr) (cl : List (Str × Addr)) (fp : List Addr), PG (X.blk s H scope (compEnvC scope cl C X.env) fp) (.Name x p1) (gName i))
    (hi1 : ∀ (s : Shared) (H : Hp) (C : Addr) (cl' : List (Str × Addr)) (fp : List Addr), PIa (X.blk s H scope (compEnvC scope cl' C X.env) fp) cl (.Name y p2) iter1 it1)
    (hg1 : ∀ (s : Shared) (H : Hp) (C : Addr) (cl : List (Str × Addr)) (fp : List Addr), PG (X.blk s H scope (compEnvC scope cl C X.env) fp) (.Name y p2) (gName j))
    (he : ∀ (s : Shared) (H : Hp) (C : Addr) (cl' : List (Str × Addr)) (fp : List Addr), PEa (X.blk s H scope (compEnvC scope cl' C X.env) fp) cl elt ea) (hs : ∀ x, foldedSetIterable iter X.env x = pure x := by intro _; rfl) (hs1 : ∀ env x, foldedSetIterable iter1 env x = pure x := by intro _ _; rfl) :
    PEa X cl (.ListComp elt [⟨.Name x p1, iter, [], 0⟩, ⟨.Name y p2, iter1, [], 0⟩] scope pos) (eLc2 it i it1 j ea) := by
  obtain ⟨t, a1, a2⟩ := hi
  exact ⟨_, pe_lc2 hc hN a1 ok (vs1 := [j]) (by intro k hk; rw [List.mem_singleton] at hk; subst hk; simp) hg (fun _ _ _ _ _ => pts_nil) (fun s H C cl' fp => (hi1 s H C cl' fp).can) hg1 (fun _ _ _ _ _ => pts_nil) (fun s H C cl' fp => (he s H C cl' fp).can) hs hs1, sim_lc2 hij a2 sim_canI sim_canE⟩
theorem as_setLc2 (k : Nat) {z : Str} {pz spos : Pos} (i j : Nat) {x y : Str} {p1 p2 : Pos} {elt iter iter1 : Expr} {scope : Scope} {it it1 : AI} (hij : i ≠ j) (hc : X.calm = true) (hN : X.N.Nodup)
    (hsw : swapsWith (.ListComp elt [⟨.Name x p1, iter, [], 0⟩, ⟨.Name y p2, iter1, [], 0⟩] scope pos) (some (.Name z pz)) spos.line X.env = pure true) (hi : PIa X cl (.Name x p1) iter it) (ok : BlkOk X.N X.env.scope scope [(x, i), (y, j)])
    (hg : ∀ (s : Shared) (H : Hp) (C : Addr) (cl : List (Str × Addr)) (fp : List Addr), PG (X.blk s H scope (compEnvC scope cl C X.env) fp) (.Name x p1) (gName i))
    (hi1 : ∀ (s : Shared) (H : Hp) (C : Addr) (cl' : List (Str × Addr)) (fp : List Addr), PIa (X.blk s H scope (compEnvC scope cl' C X.env) fp) cl (.Name y p2) iter1 it1)
    (hg1 : ∀ (s : Shared) (H : Hp) (C : Addr) (cl : List (Str × Addr)) (fp : List Addr), PG (X.blk s H scope (compEnvC scope cl C X.env) fp) (.Name y p2) (gName j))
    (he : ∀ (s : Shared) (H : Hp) (C : Addr) (cl' : List (Str × Addr)) (fp : List Addr), PEa (X.blk s H scope (compEnvC scope cl' C X.env) fp) cl elt ea)
    (hz : X.N[k]? = some z := by rfl) (hzl : X.env.scope.names.lookup z = some .local := by rfl) (hs : ∀ x, foldedSetIterable iter X.env x = pure x := by intro _; rfl) (hs1 : ∀ env x, foldedSetIterable iter1 env x = pure x := by intro _ _; rfl) :
    PSa X cl (.Assign [.Name z pz] (.ListComp elt [⟨.Name x p1, iter, [], 0⟩, ⟨.Name y p2, iter1, [], 0⟩] scope pos) spos) (sAsg (eLc2 it i it1 j ea) (aName k)) := by
  obtain ⟨t, a1, a2⟩ := hi
  exact ⟨_, ps_setLc2 hc hN hz hzl hsw a1 ok (vs1 := [j]) (by intro k hk; rw [List.mem_singleton] at hk; subst hk; simp) hg (fun _ _ _ _ _ => pts_nil) (fun s H C cl' fp => (hi1 s H C cl' fp).can) hg1 (fun _ _ _ _ _ => pts_nil) (fun s H C cl' fp => (he s H C cl' fp).can) hs hs1, sim_asg (sim_lc2 hij a2 sim_canI sim_canE) sim_name⟩
theorem ai_rev1 {tg : Expr} {p2 pos2 : Pos} (hg : Gl X "reversed") (hm : X.mg "reversed" = none) (hg2 : Gl X "range") (hm2 : X.mg "range" = none) (ha : PEa X cl a ea) (na : starEach [a] X.env = (false, eval a X.env) :: starEach [] X.env := by rfl)
    (hs : starEach [.Call (.Name "range" p2) [a] [] pos2] X.env = (false, eval (.Call (.Name "range" p2) [a] [] pos2) X.env) :: starEach [] X.env := by rfl) :
    PIa X cl tg (.Call (.Name "reversed" p) [.Call (.Name "range" p2) [a] [] pos2] [] pos) (itRev1 ea) := by
  obtain ⟨t, a1, a2⟩ := ha
  exact ⟨_, pi_revR hg hm (prg_1 hg2 hm2 a1 na) hs, simi_rev1 a2⟩
/-- over a dict -/
theorem ae_lcD (i x : Nat) {y z : Str} {p1 p2 : Pos} {elt : Expr} {ifs : List Expr} {scope : Scope} (hc : X.calm = true) (hN : X.N.Nodup) (ok : BlkOk X.N X.env.scope scope [(z, x)])
    (hg : ∀ (s : Shared) (H : Hp) (C : Addr) (cl : List (Str × Addr)) (fp : List Addr), PG (X.blk s H scope (compEnvC scope cl C X.env) fp) (.Name z p1) (gName x))
    (ht : ∀ (s : Shared) (H : Hp) (C : Addr) (cl' : List (Str × Addr)) (fp : List Addr), PTsa (X.blk s H scope (compEnvC scope cl' C X.env) fp) cl ifs qa)
    (he : ∀ (s : Shared) (H : Hp) (C : Addr) (cl' : List (Str × Addr)) (fp : List Addr), PEa (X.blk s H scope (compEnvC scope cl' C X.env) fp) cl elt ea)
    (hy : X.N[i]? = some y := by rfl) (hv : Vis X.env.scope y := by first | exact Or.inl rfl | exact Or.inr (Or.inl rfl) | exact Or.inr (Or.inr rfl)) (hd : (y == ("__debug__" : Str)) = false := by decide)
    (hcd : (y == ("__classdict__" : Str)) = false := by decide) (hs : ∀ x, foldedSetIterable (.Name y p2) X.env x = pure x := by intro _; rfl) :
    PEa X cl (.ListComp elt [⟨.Name z p1, .Name y p2, ifs, 0⟩] scope pos) (eLcD i x qa ea) :=
  ⟨_, pe_lock (pe_lc hc hN (pi_keys (pe_var hy hv hd hcd)) ok hg (fun s H C cl' fp => (ht s H C cl' fp).can) (fun s H C cl' fp => (he s H C cl' fp).can) hs), sim_lcD sim_canT sim_canE⟩
end
end Sy
/-! SyN: match over texts. -/
namespace Sy
open PySem L2 PySem.Spec PyProof.Rows
theorem exec_Match (a : Expr) (cs : List MatchCase) (pos : Pos) (env : Env) : exec (.Match a cs pos) env = (do standAt pos; let v ← eval a env; matchCases cs env v true) := rfl
theorem pat_Value (e : Expr) (pos : Pos)  (env : Env) (v : Value) : matchPattern (.MatchValue e pos) env v = (do
    let u ← eval e env
    standAt pos
    if ← truthy (← compareOp .Eq v u) then pure (some []) else pure none) := rfl
theorem pat_As (pos : Pos) (env : Env) (v : Value) : matchPattern (.MatchAs none none pos) env v = pure (some []) := rfl
def pick {α : Type} (x : Str) (d : α) : List (Str × α) → α
  | [] => d
  | (s, t) :: r => if (x.cps.toList == s.cps.toList) = true then t else pick x d r
inductive PCs (X : Cx) : List MatchCase → List (Str × TS) → TS → Prop where
  | last {body : List Stmt} {t : TS} {pos : Pos} : PSs X body t → PCs X [⟨.MatchAs none none pos, none, body⟩] [] t
  | cons {s : Str} {k : Nat} {p1 p2 : Pos} {body : List Stmt} {t td : TS} {rest : List MatchCase} {ts : List (Str × TS)} : PSs X body t → PCs X rest ts td → PCs X (⟨.MatchValue (.Constant (.str s) k p1) p2, none, body⟩ :: rest) ((s, t) :: ts) td
theorem match_some {X : Cx} {p : PySem.Pattern} {cs : List MatchCase} {body : List Stmt} {v : Value} {b : Bool} {s : Shared} {Q : Flow → Shared → Prop} {E : Value → Shared → Prop}
    (hp : wpAny (model X.prog X.w) X.A (matchPattern p X.env v) (fun o s' => (o = some [] ∧ wpAny (model X.prog X.w) X.A (execs body X.env) Q E s') ∨ (o = none ∧ wpAny (model X.prog X.w) X.A (matchCases cs X.env v false) Q E s')) E s) :
    wpAny (model X.prog X.w) X.A (matchCases (⟨p, none, body⟩ :: cs) X.env v b) Q E s := by
  rw [matchCases]
  refine wpAny_bind (wpAny_holding (thn hp fun o s' h => ?_))
  rcases h with ⟨rfl, h⟩ | ⟨rfl, h⟩
  · refine wpAny_bind (wpAny_holding ?_)
    refine wpAny_pure ?_
    exact h
  · exact h
theorem PCs.run {X : Cx} {cs : List MatchCase} {ts : List (Str × TS)} {td : TS} (h : PCs X cs ts td) : ∀ (pins : List (Addr × Obj)) (s : Shared) (σ : L2.St) (H : Hp) (D : Ends) (x : Str) (tk : Tok) (b : Bool), L2.Inv X pins σ H s → pick x td ts D σ H → wpAny (model X.prog X.w) X.A (matchCases cs X.env (.str x tk) b) (SP X pins D) X.xe s := by
  induction h with
  | last hb =>
    intro pins s σ H D x tk b I h
    refine match_some ?_
    rw [pat_As]
    exact wpAny_pure (.inl ⟨rfl, hb.run pins s σ H D I h⟩)
  | @cons s0 k p1 p2 body t td rest ts hb hr ih =>
    intro pins s σ H D x tk b I h
    refine match_some ?_
    rw [pat_Value]
    refine wpAny_bind (Calls.Constant_str ?_)
    refine wpAny_bind (wpAny_standAt ?_)
    refine wpAny_bind (PySem.P.eq_str ?_)
    refine wpAny_bind (wpAny_truthy_bool ?_)
    have I' := I.tok (s.toks + 1)
    unfold pick at h
    by_cases e : (x.cps.toList == s0.cps.toList) = true
    · rw [if_pos e] at h
      rw [if_pos e]
      exact wpAny_pure (.inl ⟨rfl, hb.run pins _ σ H D I' h⟩)
    · rw [if_neg e] at h
      rw [if_neg e]
      exact wpAny_pure (.inr ⟨rfl, ih pins _ σ H D x tk false I' h⟩)
def tMatch (te : TE) (ts : List (Str × TS)) (td : TS) : TS := fun D σ H => te σ H fun v H1 => ∃ x, v = .str x ∧ pick x td ts D σ H1
theorem ps_match {X : Cx} {e : Expr} {cs : List MatchCase} {pos : Pos} {te : TE} {ts : List (Str × TS)} {td : TS} (he : PE X e te) (hc : PCs X cs ts td) : PS X (.Match e cs pos) (tMatch te ts td) := by
  refine ⟨fun pins s σ H D I h => ?_⟩
  rw [exec_Match]
  refine wpAny_bind (wpAny_standAt ?_)
  refine wpAny_bind (thn (he.run pins s σ H _ I h) fun v s1 ⟨x, H1, I1, r1, q⟩ => ?_)
  obtain ⟨y, rfl, q⟩ := q
  obtain ⟨t, rfl⟩ := r1
  exact hc.run pins s1 σ H1 D y t true I1 q
def sMatch (a : AE) (cs : List (String × AS)) (d : AS) : AS := fun σ M => (a σ M).bind fun p => match p.1 with
  | .str x => (match look cs x with | some b => b | none => d) σ p.2
  | _ => none
inductive SimCs (K : PySem.W.Frag) (cl : Cle) : List (Str × TS) → List (String × AS) → Prop where
  | nil : SimCs K cl [] []
  | cons {s : String} {t : TS} {a : AS} {ts : List (Str × TS)} {as : List (String × AS)} : SimS K cl t a → SimCs K cl ts as → SimCs K cl ((Str.ofString s, t) :: ts) ((s, a) :: as)
theorem cps_eq {x y : String} (h : ((Str.ofString x).cps.toList == (Str.ofString y).cps.toList) = true) : x = y := by
  have h : (Str.ofString x).cps.toList = (Str.ofString y).cps.toList := by simpa using h
  refine ofString_inj ?_
  have : (Str.ofString x).cps = (Str.ofString y).cps := Array.ext' h
  cases e1 : Str.ofString x
  cases e2 : Str.ofString y
  rw [e1, e2] at this
  exact congrArg Str.mk this
theorem pick_sim {K : PySem.W.Frag} {cl : Cle} {ts : List (Str × TS)} {as : List (String × AS)} {td : TS} {d : AS} (h : SimCs K cl ts as) (hd : SimS K cl td d) (x : String) : SimS K cl (pick (Str.ofString x) td ts) (match look as x with | some b => b | none => d) := by
  induction h with
  | nil => exact hd
  | @cons s t a ts as h1 h2 ih =>
    unfold pick look
    by_cases e : s = x
    · subst e
      rw [if_pos rfl, if_pos (by simp)]
      exact h1
    · rw [if_neg e, if_neg (fun z => e (cps_eq z).symm)]
      exact ih
theorem sim_match {K : PySem.W.Frag} {cl : Cle} {te : TE} {a : AE} {ts : List (Str × TS)} {as : List (String × AS)} {td : TS} {d : AS} (ha : SimE K cl te a) (h : SimCs K cl ts as) (hd : SimS K cl td d) : SimS K cl (tMatch te ts td) (sMatch a as d) := by
  intro ρ M H σ c fl σ' M' S R h' D k
  obtain ⟨⟨x, M1⟩, e1, h'⟩ := Option.bind_eq_some_iff.mp h'
  refine ha S R e1 _ fun ρ1 H1 w S1 m1 r1 => ?_
  cases x with
  | str x =>
    rw [RV] at r1
    exact ⟨_, r1, pick_sim h hd x S1 (R.mo m1) h' D fun ρ2 H2 c2 S2 m2 R2 => k _ _ _ S2 (m1.trans m2) R2⟩
  | _ => cases h'
def PCa (X : Cx) (cl : Cle) (cs : List MatchCase) (as : List (String × AS)) (d : AS) : Prop := ∃ ts td, PCs X cs ts td ∧ SimCs X.K cl ts as ∧ SimS X.K cl td d
section
variable {X : Cx} {cl : Cle} {pos p1 p2 : Pos} {e : Expr} {ea : AE} {sa sd : AS} {body : List Stmt}
theorem pc_last (h : PSsa X cl body sa) : PCa X cl [⟨.MatchAs none none pos, none, body⟩] [] sa := by
  obtain ⟨t, h1, h2⟩ := h
  exact ⟨_, _, .last h1, .nil, h2⟩
theorem pc_cons {s : String} {k : Nat} {rest : List MatchCase} {as : List (String × AS)} (h : PSsa X cl body sa) (hr : PCa X cl rest as sd) : PCa X cl (⟨.MatchValue (.Constant (.str (Str.ofString s)) k p1) p2, none, body⟩ :: rest) ((s, sa) :: as) sd := by
  obtain ⟨t, h1, h2⟩ := h
  obtain ⟨ts, td, r1, r2, r3⟩ := hr
  exact ⟨_, _, .cons h1 r1, .cons h2 r2, r3⟩
theorem as_match {cs : List MatchCase} {as : List (String × AS)} (he : PEa X cl e ea) (hc : PCa X cl cs as sd) : PSa X cl (.Match e cs pos) (sMatch ea as sd) := by
  obtain ⟨t, a1, a2⟩ := he
  obtain ⟨ts, td, r1, r2, r3⟩ := hc
  exact ⟨_, ps_match a1 r1, sim_match a2 r2 r3⟩
end
end Sy
/-! the words that the calculus runs by: more of them, those of the library under names of our own -/
namespace Sy
open PySem L2
section
variable {α β : Type}
theorem sv_isSome {a : α} : (some a).isSome = true := rfl
theorem sv_isSome0 : (none : Option α).isSome = false := rfl
theorem sv_map1 {f : α → β} {a : α} {l : List α} : (a :: l).map f = f a :: l.map f := rfl
theorem sv_map0 {f : α → β} : ([] : List α).map f = [] := rfl
theorem sv_app1 {a : α} {l r : List α} : a :: l ++ r = a :: (l ++ r) := rfl
theorem sv_app0 {l : List α} : [] ++ l = l := rfl
theorem sv_rep1 {n : Nat} {a : α} : List.replicate (n + 1) a = a :: List.replicate n a := rfl
theorem sv_rep0 {a : α} : List.replicate 0 a = [] := rfl
theorem sv_set0 {a b : α} {l : List α} : (a :: l).set 0 b = b :: l := rfl
theorem sv_set1 {a b : α} {l : List α} {n : Nat} : (a :: l).set (n + 1) b = a :: l.set n b := rfl
theorem sv_bind {f : α → Option β} {a : α} : (some a).bind f = f a := rfl
theorem sv_omap {f : α → β} {a : α} : (some a).map f = some (f a) := rfl
theorem sv_getD {a b : α} : (some a).getD b = a := rfl
theorem sv_getD0 {b : α} : (none : Option α).getD b = b := rfl
theorem sv_if1 {a b : α} : (if True then a else b) = a := if_pos trivial
theorem sv_if0 {a b : α} : (if False then a else b) = b := if_neg id
theorem sv_eq {a : α} : (a = a) = True := eq_self a
theorem sv_or1 {p : Prop} : (p ∨ True) = True := or_true p
theorem sv_or2 {p : Prop} : (True ∨ p) = True := true_or p
theorem sv_and0 {p : Prop} : (p ∧ p) = p := and_self p
theorem sv_and1 {p : Prop} : (True ∧ p) = p := true_and p
theorem sv_and2 {p : Prop} : (p ∧ True) = p := and_true p
theorem sv_len1 {a : α} {l : List α} : (a :: l).length = l.length + 1 := rfl
theorem sv_len0 : ([] : List α).length = 0 := rfl
theorem sv_dec1 : decide True = true := rfl
theorem sv_dec0 : decide False = false := rfl
theorem sv_not1 : (!true) = false := rfl
theorem sv_not0 : (!false) = true := rfl
end
section
variable {κ : Type} [DecidableEq κ] {α : Type}
theorem look_nil {k : κ} : look ([] : List (κ × α)) k = none := rfl
theorem look_cons {a k : κ} {v : α} {r : List (κ × α)} : look ((a, v) :: r) k = if a = k then some v else look r k := rfl
theorem put_nil {k : κ} {x : α} : put [] k x = [(k, x)] := rfl
theorem put_cons {a k : κ} {v x : α} {r : List (κ × α)} : put ((a, v) :: r) k x = if a = k then (a, x) :: r else (a, v) :: put r k x := rfl
end
section
variable {σ : ASt} {M : AH} {Q : AV × AH → Prop} {QA : List AV × AH → Prop} {QT : Bool × AH → Prop} {QS : Fl × ASt × AH → Prop} {a b c : AE} {r : AA} {α : Type}
theorem wo_inC {x y : AV} : wpO (oInC x y M) Q = wpO (inC x y M) fun z => Q (.bl z, M) := by unfold oInC; rw [w_map]
theorem wo_ninC {x y : AV} : wpO (oNinC x y M) Q = wpO (inC x y M) fun z => Q (.bl (!z), M) := by unfold oNinC; rw [w_map]
def inCW (o : Option AO) (x : AV) (M : AH) : Option Bool := match o with
  | some (.st S _) => match x with | .int k => some (S k) | _ => none
  | o => inW o x M
theorem inC_ref {n : Nat} {x : AV} : inC x (.ref n) M = inCW (M.get n) x M := by
  unfold inC inCW
  dsimp only
  rw [inB_ref]
  cases h : M.get n with
  | none => rfl
  | some o => cases o <;> rfl
theorem inCW_st {S : Int → Bool} {n : Nat} {k : Int} : inCW (some (.st S n)) (.int k) M = some (S k) := rfl
theorem inCW_lst {xs : List AV} {x : AV} : inCW (some (.lst xs)) x M = (dat 8 M x).bind fun d => (datL (dat 7 M) xs).map fun ds => ds.any fun z => PyData.eqv z d := rfl
theorem inCW_dK {kvs : List (AK × AV)} {x : AV} : inCW (some (.dK kvs)) x M = (AV.key x).map fun k => (look kvs k).isSome := rfl
theorem inCW_dT {kvs : List (List AK × AV)} {x : AV} : inCW (some (.dT kvs)) x M = (keyT x).map fun k => (look kvs k).isSome := rfl
theorem w_rev : wpO (eRev a σ M) Q = wpO (a σ M) fun p => wpO (refO p.1) fun n => wpO (lstO (p.2.get n)) fun xs => Q (.ref p.2.next, p.2.new (.lst xs.reverse)) := by
  unfold eRev
  rw [w_bind]
  refine wpO_congr rfl (funext fun p => ?_)
  obtain ⟨v, N⟩ := p
  cases v with
  | ref n => show wpO ((lstO (N.get n)).map _) Q = wpO (some n) _; rw [w_some, w_map]
  | _ => show wpO none Q = wpO none _; rw [w_none, w_none]
theorem w_sadd : wpO (eSAdd a r σ M) Q = wpO (a σ M) fun p => wpO (refO p.1) fun n => wpO (stO (p.2.get n)) fun _ => wpO (r σ p.2) fun q => wpO (r1O q.1) fun k => wpO (stO (q.2.get n)) fun s => s.2 + 1 < 4096 ∧ Q (.non, q.2.set n (.st (fun j => s.1 j || decide (j = k)) (if s.1 k = true then s.2 else s.2 + 1))) := by
  unfold eSAdd
  rw [w_bind]
  refine wpO_congr rfl (funext fun p => ?_)
  obtain ⟨v, N⟩ := p
  cases v with
  | ref n =>
    show wpO ((stO (N.get n)).bind _) Q = wpO (some n) _
    rw [w_some, w_bind]
    refine wpO_congr rfl (funext fun s0 => ?_)
    rw [w_bind]
    refine wpO_congr rfl (funext fun q => ?_)
    obtain ⟨vs, N2⟩ := q
    dsimp only
    split
    · rw [r1O_1, w_some, w_bind]
      refine wpO_congr rfl (funext fun s1 => ?_)
      rw [w_if, w_some]
    · rename_i h
      rw [w_none]
      have : r1O vs = none := by
        unfold r1O
        split
        · exact absurd rfl (h _)
        · rfl
      rw [this, w_none]
  | _ => show wpO none Q = wpO none _; rw [w_none, w_none]
theorem stO_st {S : Int → Bool} {n : Nat} : stO (some (.st S n)) = some (S, n) := rfl
theorem fSet0_0 : fSet0 [] M = some (.ref M.next, M.new (.st (fun _ => false) 0)) := rfl
theorem w_match {cs : List (String × AS)} {d : AS} : wpO (sMatch a cs d σ M) QS = wpO (a σ M) fun p => wpO (match p.1 with | .str x => some x | _ => none) fun x => wpO ((match look cs x with | some b => b | none => d) σ p.2) QS := by
  unfold sMatch
  rw [w_bind]
  refine wpO_congr rfl (funext fun p => ?_)
  obtain ⟨v, N⟩ := p
  cases v with
  | str x => show _ = wpO (some x) _; rw [w_some]
  | _ => show wpO none QS = wpO none _; rw [w_none, w_none]
theorem inC_tup {x : AV} {xs : List AV} : inC x (.tup xs) M = if flA x = true ∧ xs.all flA = true then some (xs.any fun y => eqA y x) else none := rfl
end
end Sy
/-! Stk: stacks with tagged heads, machines that work on them step by step: the bare mathematics, over no program. -/
namespace Stk
abbrev HV := Option (Int × Int)
def top (v : HV) : Int := match v with | some p => p.1 | none => 0
def tag (v : HV) : Int := match v with | some p => p.2 | none => 0
structure Wd where
  hd : Bool → HV
  nx : Bool → Int → Int
def Wd.setH (w : Wd) (h : Bool) (v : HV) : Wd := ⟨fun k => if k = h then v else w.hd k, w.nx⟩
def Wd.setN (w : Wd) (k : Bool) (x y : Int) : Wd := ⟨w.hd, fun j z => if j = k ∧ z = x then y else w.nx j z⟩
/-- the kind of a stack's cells: the second stack's is pg -/
def kd (pg h : Bool) : Bool := h && pg
inductive Mch where
  | pop0 (h : Bool) | pop1 (h : Bool) (raw : HV) | pop2 (h : Bool) (raw : HV) (below : Int)
  | push0 (h : Bool) (x : Int) | push1 (h : Bool) (x : Int) (raw : HV) | push2 (h : Bool) (x : Int) (raw : HV)
  | all0 (h : Bool) | all1 (h : Bool) (raw : HV) | all2 (h : Bool) (taken rest : List Int)
def tp : List Int → Int
  | [] => 0
  | x :: _ => x + 1
def Lk (nx : Int → Int) : List Int → Prop
  | [] => True
  | x :: r => nx x = tp r ∧ Lk nx r
def hand : Mch → List Int
  | .push0 _ x => [x]
  | .push1 _ x _ => [x]
  | .push2 _ x _ => [x]
  | .all2 _ t r => t ++ r
  | _ => []
/-- what is true of a machine -/
def MI (pg : Bool) (w : Wd) : Mch → Prop
  | .pop1 h raw => tag raw ≤ tag (w.hd h) ∧ top raw ≠ 0
  | .pop2 h raw b => tag raw ≤ tag (w.hd h) ∧ top raw ≠ 0 ∧ (w.hd h = raw → w.nx (kd pg h) (top raw - 1) = b)
  | .push1 h x raw => tag raw ≤ tag (w.hd h)
  | .push2 h x raw => tag raw ≤ tag (w.hd h) ∧ w.nx (kd pg h) x = top raw
  | .all1 h raw => tag raw ≤ tag (w.hd h) ∧ top raw ≠ 0
  | .all2 h t r => Lk (w.nx (kd pg h)) r ∧ r ≠ []
  | _ => True
def cnt (x : Int) (ms : List Mch) : Nat := (ms.map fun m => (hand m).count x).sum
/-- what an item may be -/
def Bd (x : Int) : Prop := 0 ≤ x ∧ x < 9
structure Inv (pg : Bool) (w : Wd) (S : Bool → List Int) (loose : List Int) (ms : List Mch) : Prop where
  one : ∀ x, (S false).count x + (S true).count x + loose.count x + cnt x ms ≤ 1
  pos : ∀ h, ∀ x ∈ S h, Bd x
  posL : ∀ x ∈ loose, Bd x
  posM : ∀ m ∈ ms, ∀ x ∈ hand m, Bd x
  hd : ∀ h, top (w.hd h) = tp (S h)
  lk : ∀ h, Lk (w.nx (kd pg h)) (S h)
  mi : ∀ m ∈ ms, MI pg w m
theorem cnt_app {x : Int} {a b : List Mch} : cnt x (a ++ b) = cnt x a + cnt x b := by simp [cnt]
theorem cnt_cons {x : Int} {m : Mch} {b : List Mch} : cnt x (m :: b) = (hand m).count x + cnt x b := by simp [cnt]
theorem cnt_mem {x : Int} {m : Mch} {ms : List Mch} (h : m ∈ ms) : (hand m).count x ≤ cnt x ms := by
  induction ms with
  | nil => cases h
  | cons a r ih =>
    rw [cnt_cons]
    rcases List.mem_cons.mp h with rfl | h
    · omega
    · have := ih h; omega
theorem tp_zero {xs : List Int} (h : ∀ x ∈ xs, 0 ≤ x) (e : tp xs = 0) : xs = [] := by
  cases xs with
  | nil => rfl
  | cons x r => have := h x List.mem_cons_self; have e : x + 1 = 0 := e; omega
theorem tp_cons {xs : List Int} {t : Int} (h : t ≠ 0) (e : t = tp xs) : ∃ r, xs = (t - 1) :: r := by
  cases xs with
  | nil => exact absurd e h
  | cons x r => refine ⟨r, ?_⟩; have e : t = x + 1 := e; congr 1; omega
theorem Lk.congr {nx nx' : Int → Int} : ∀ {xs : List Int}, (∀ x ∈ xs, nx' x = nx x) → Lk nx xs → Lk nx' xs
  | [], _, _ => trivial
  | x :: r, h, ⟨h1, h2⟩ => ⟨(h x List.mem_cons_self).trans h1, Lk.congr (fun y hy => h y (List.mem_cons_of_mem _ hy)) h2⟩
section
variable {pg : Bool} {w : Wd} {S : Bool → List Int} {loose : List Int} {l1 l2 : List Mch} {m : Mch}
def setS (S : Bool → List Int) (h : Bool) (xs : List Int) : Bool → List Int := fun k => if k = h then xs else S k
theorem setS_same {h : Bool} {xs : List Int} : setS S h xs h = xs := if_pos rfl
theorem setS_cnt {h : Bool} {xs : List Int} {x : Int} : (setS S h xs false).count x + (setS S h xs true).count x + (S h).count x = (S false).count x + (S true).count x + xs.count x := by
  cases h <;> simp [setS] <;> omega
theorem S_le {h : Bool} {x : Int} : (S h).count x ≤ (S false).count x + (S true).count x := by cases h <;> omega
/-- the head of a stack is changed -/
theorem MI.setH {h : Bool} {v : HV} (hv : tag v = tag (w.hd h) + 1) : ∀ {m : Mch}, MI pg w m → MI pg (w.setH h v) m := by
  have le : ∀ {k : Bool} {raw : HV}, tag raw ≤ tag (w.hd k) → tag raw ≤ tag ((w.setH h v).hd k) := by
    intro k raw q
    by_cases e : k = h
    · subst e
      have e2 : (w.setH k v).hd k = v := if_pos rfl
      rw [e2]; omega
    · have e2 : (w.setH h v).hd k = w.hd k := if_neg e
      rw [e2]; exact q
  have ne : ∀ {k : Bool} {raw : HV}, tag raw ≤ tag (w.hd k) → (w.setH h v).hd k = raw → w.hd k = raw := by
    intro k raw q e
    by_cases z : k = h
    · subst z
      have e2 : (w.setH k v).hd k = v := if_pos rfl
      rw [e2] at e; subst e; omega
    · have e2 : (w.setH h v).hd k = w.hd k := if_neg z
      rw [e2] at e; exact e
  intro m i
  cases m with
  | pop1 k raw => exact ⟨le i.1, i.2⟩
  | pop2 k raw b => exact ⟨le i.1, i.2.1, fun e => i.2.2 (ne i.1 e)⟩
  | push1 k x raw => exact le i
  | push2 k x raw => exact ⟨le i.1, i.2⟩
  | all1 k raw => exact ⟨le i.1, i.2⟩
  | all2 k t r => exact i
  | _ => trivial
theorem Inv.perm {ms ms' : List Mch} (I : Inv pg w S loose ms) (h : ∀ x, cnt x ms' ≤ cnt x ms) (h2 : ∀ m ∈ ms', (∀ x ∈ hand m, Bd x) ∧ MI pg w m) : Inv pg w S loose ms' :=
  ⟨fun x => by have := I.one x; have := h x; omega, I.pos, I.posL, fun m hm => (h2 m hm).1, I.hd, I.lk, fun m hm => (h2 m hm).2⟩
theorem mem_mid {l1 l2 : List Mch} {m m' a : Mch} (h : a ∈ l1 ++ m' :: l2) : a = m' ∨ a ∈ l1 ++ m :: l2 := by
  simp only [List.mem_append, List.mem_cons] at h ⊢
  rcases h with h | h | h
  · exact .inr (.inl h)
  · exact .inl h
  · exact .inr (.inr (.inr h))
theorem mem_out {l1 l2 : List Mch} {m a : Mch} (h : a ∈ l1 ++ l2) : a ∈ l1 ++ m :: l2 := by
  simp only [List.mem_append, List.mem_cons] at h ⊢
  rcases h with h | h
  · exact .inl h
  · exact .inr (.inr h)
theorem here {l1 l2 : List Mch} {m : Mch} : m ∈ l1 ++ m :: l2 := List.mem_append_right _ List.mem_cons_self
/-- a machine goes on, the memory as it was -/
theorem Inv.go {m' : Mch} (I : Inv pg w S loose (l1 ++ m :: l2)) (h : hand m' = hand m) (h2 : MI pg w m') : Inv pg w S loose (l1 ++ m' :: l2) :=
  I.perm (fun x => by rw [cnt_app, cnt_app, cnt_cons, cnt_cons, h]; exact Nat.le_refl _) fun a ha => by
    rcases mem_mid (m := m) ha with rfl | ha
    · exact ⟨by rw [h]; exact I.posM _ here, h2⟩
    · exact ⟨I.posM a ha, I.mi a ha⟩
theorem Inv.out (I : Inv pg w S loose (l1 ++ m :: l2)) (h : hand m = []) : Inv pg w S loose (l1 ++ l2) :=
  I.perm (fun x => by rw [cnt_app, cnt_app, cnt_cons]; omega) fun a ha => ⟨I.posM a (mem_out ha), I.mi a (mem_out ha)⟩
theorem Inv.empty {h : Bool} (I : Inv pg w S loose (l1 ++ m :: l2)) (e : top (w.hd h) = 0) : S h = [] := tp_zero (fun x hx => (I.pos h x hx).1) ((I.hd h).symm.trans e)
/-- the topmost item, of a head that was read -/
theorem Inv.topmost {ms : List Mch} {h : Bool} {raw : HV} (I : Inv pg w S loose ms) (e : w.hd h = raw) (n : top raw ≠ 0) : ∃ r, S h = (top raw - 1) :: r := tp_cons n (by rw [← I.hd h, e])
/-! Pop -/
theorem Inv.pop0 {h : Bool} (I : Inv pg w S loose (l1 ++ .pop0 h :: l2)) (e : top (w.hd h) ≠ 0) : Inv pg w S loose (l1 ++ .pop1 h (w.hd h) :: l2) := I.go rfl ⟨Int.le_refl _, e⟩
theorem Inv.pop1 {h : Bool} {raw : HV} (I : Inv pg w S loose (l1 ++ .pop1 h raw :: l2)) : Inv pg w S loose (l1 ++ .pop2 h raw (w.nx (kd pg h) (top raw - 1)) :: l2) :=
  have i := I.mi _ here
  I.go rfl ⟨i.1, i.2, fun _ => rfl⟩
theorem Inv.pop2f {h : Bool} {raw : HV} {b : Int} (I : Inv pg w S loose (l1 ++ .pop2 h raw b :: l2)) : Inv pg w S loose (l1 ++ .pop0 h :: l2) := I.go rfl trivial
theorem Inv.pop2 {h : Bool} {raw : HV} {b : Int} (I : Inv pg w S loose (l1 ++ .pop2 h raw b :: l2)) (e : w.hd h = raw) :
    ∃ r, S h = (top raw - 1) :: r ∧ Inv pg (w.setH h (some (b, tag raw + 1))) (setS S h r) (loose ++ [top raw - 1]) (l1 ++ l2) := by
  obtain ⟨i1, i2, i3⟩ := I.mi _ here
  obtain ⟨r, er⟩ := I.topmost e i2
  have lk := I.lk h
  rw [er] at lk
  have hb : b = tp r := (i3 e).symm.trans lk.1
  refine ⟨r, er, ⟨fun x => ?_, fun k x hx => ?_, fun x hx => ?_, fun a ha => I.posM a (mem_out ha), fun k => ?_, fun k => ?_, fun a ha => MI.setH (by rw [e]; rfl) (I.mi a (mem_out ha))⟩⟩
  · have h1 := I.one x
    have h2 := setS_cnt (S := S) (h := h) (xs := r) (x := x)
    rw [er, List.count_cons] at h2
    rw [cnt_app, cnt_cons] at h1
    rw [List.count_append, List.count_cons, List.count_nil, cnt_app]
    omega
  · by_cases z : k = h
    · subst z; rw [setS_same] at hx; exact I.pos k x (by rw [er]; exact List.mem_cons_of_mem _ hx)
    · have e2 : setS S h r k = S k := if_neg z
      rw [e2] at hx; exact I.pos k x hx
  · rcases List.mem_append.mp hx with hx | hx
    · exact I.posL x hx
    · rw [List.mem_singleton] at hx
      subst hx
      exact I.pos h _ (by rw [er]; exact List.mem_cons_self)
  · by_cases z : k = h
    · subst z
      have e2 : (w.setH k (some (b, tag raw + 1))).hd k = some (b, tag raw + 1) := if_pos rfl
      rw [e2, setS_same]; exact hb
    · have e2 : (w.setH h (some (b, tag raw + 1))).hd k = w.hd k := if_neg z
      have e3 : setS S h r k = S k := if_neg z
      rw [e2, e3]; exact I.hd k
  · by_cases z : k = h
    · subst z; rw [setS_same]; exact lk.2
    · have e3 : setS S h r k = S k := if_neg z
      rw [e3]; exact I.lk k
/-! Push -/
theorem Inv.push0 {h : Bool} {x : Int} (I : Inv pg w S loose (l1 ++ .push0 h x :: l2)) : Inv pg w S loose (l1 ++ .push1 h x (w.hd h) :: l2) := I.go rfl (Int.le_refl _)
theorem setN_ne {k j : Bool} {x y z : Int} (h : z ≠ x) : (w.setN k x y).nx j z = w.nx j z := if_neg fun q => h q.2
/-- the cell of an item that only this machine has in its hands is written -/
theorem Inv.setN {ms : List Mch} {h : Bool} {x y : Int} {m : Mch} (I : Inv pg w S loose (l1 ++ m :: l2)) (hx : hand m = [x]) :
    (∀ k, Lk ((w.setN (kd pg h) x y).nx (kd pg k)) (S k)) ∧ ∀ a, a ∈ l1 ++ l2 → MI pg (w.setN (kd pg h) x y) a := by
  have one := I.one x
  rw [cnt_app, cnt_cons, hx, List.count_cons, List.count_nil] at one
  simp only [beq_self_eq_true, if_true] at one
  have nS : ∀ k, x ∉ S k := fun k q => by
    have h1 := List.count_pos_iff.mpr q
    have h2 := S_le (S := S) (h := k) (x := x)
    omega
  have nH : ∀ a, a ∈ l1 ++ l2 → x ∉ hand a := fun a ha q => by
    have h1 := List.count_pos_iff.mpr q
    have h2 := cnt_mem (x := x) ha
    rw [cnt_app] at h2
    omega
  refine ⟨fun k => (I.lk k).congr fun z hz => setN_ne fun q => nS k (q ▸ hz), fun a ha => ?_⟩
  have i := I.mi a (mem_out ha)
  have n := nH a ha
  cases a with
  | pop1 k raw => exact i
  | pop2 k raw b =>
    refine ⟨i.1, i.2.1, fun e => ?_⟩
    have e : w.hd k = raw := e
    obtain ⟨r, er⟩ := I.topmost e i.2.1
    rw [setN_ne fun q => nS k (by rw [er, ← q]; exact List.mem_cons_self)]
    exact i.2.2 e
  | push1 k z raw => exact i
  | push2 k z raw =>
    refine ⟨i.1, ?_⟩
    rw [setN_ne fun q => n (by rw [← q]; exact List.mem_cons_self)]
    exact i.2
  | all1 k raw => exact i
  | all2 k t r => exact ⟨i.1.congr fun z hz => setN_ne fun q => n (by rw [← q]; exact List.mem_append_right _ hz), i.2⟩
  | _ => trivial
theorem Inv.push1 {h : Bool} {x : Int} {raw : HV} (I : Inv pg w S loose (l1 ++ .push1 h x raw :: l2)) : Inv pg (w.setN (kd pg h) x (top raw)) S loose (l1 ++ .push2 h x raw :: l2) := by
  obtain ⟨q1, q2⟩ := I.setN (ms := []) (h := h) (y := top raw) (hx := (rfl : hand (.push1 h x raw) = [x]))
  have i := I.mi _ here
  refine ⟨fun z => ?_, I.pos, I.posL, fun a ha => ?_, I.hd, q1, fun a ha => ?_⟩
  · have := I.one z
    rw [cnt_app, cnt_cons] at this ⊢
    exact this
  · rcases mem_mid (m := .push1 h x raw) ha with rfl | ha
    · exact I.posM (.push1 h x raw) here
    · exact I.posM a ha
  · have ha' : a = .push2 h x raw ∨ a ∈ l1 ++ l2 := by
      simp only [List.mem_append, List.mem_cons] at ha ⊢
      rcases ha with ha | ha | ha
      · exact .inr (.inl ha)
      · exact .inl ha
      · exact .inr (.inr ha)
    rcases ha' with rfl | ha'
    · exact ⟨i, if_pos ⟨rfl, rfl⟩⟩
    · exact q2 a ha'
theorem Inv.push2f {h : Bool} {x : Int} {raw : HV} (I : Inv pg w S loose (l1 ++ .push2 h x raw :: l2)) : Inv pg w S loose (l1 ++ .push0 h x :: l2) := I.go rfl trivial
theorem Inv.push2 {h : Bool} {x : Int} {raw : HV} (I : Inv pg w S loose (l1 ++ .push2 h x raw :: l2)) (e : w.hd h = raw) : Inv pg (w.setH h (some (x + 1, tag raw + 1))) (setS S h (x :: S h)) loose (l1 ++ l2) := by
  obtain ⟨i1, i2⟩ := I.mi _ here
  have lk := I.lk h
  have hx0 : Bd x := I.posM _ here x List.mem_cons_self
  refine ⟨fun z => ?_, fun k z hz => ?_, I.posL, fun a ha => I.posM a (mem_out ha), fun k => ?_, fun k => ?_, fun a ha => MI.setH (by rw [e]; rfl) (I.mi a (mem_out ha))⟩
  · have h1 := I.one z
    have h2 := setS_cnt (S := S) (h := h) (xs := x :: S h) (x := z)
    rw [List.count_cons] at h2
    rw [cnt_app, cnt_cons] at h1
    have h3 : (hand (.push2 h x raw)).count z = if (x == z) = true then 1 else 0 := by
      show List.count z [x] = _
      rw [List.count_cons, List.count_nil, Nat.zero_add]
    rw [cnt_app]
    omega
  · by_cases q : k = h
    · subst q
      rw [setS_same] at hz
      rcases List.mem_cons.mp hz with rfl | hz
      · exact hx0
      · exact I.pos k z hz
    · have e2 : setS S h (x :: S h) k = S k := if_neg q
      rw [e2] at hz; exact I.pos k z hz
  · by_cases z : k = h
    · subst z
      have e2 : (w.setH k (some (x + 1, tag raw + 1))).hd k = some (x + 1, tag raw + 1) := if_pos rfl
      rw [e2, setS_same]; rfl
    · have e2 : (w.setH h (some (x + 1, tag raw + 1))).hd k = w.hd k := if_neg z
      have e3 : setS S h (x :: S h) k = S k := if_neg z
      rw [e2, e3]; exact I.hd k
  · by_cases z : k = h
    · subst z
      rw [setS_same]
      exact ⟨by show w.nx (kd pg k) x = _; rw [i2, ← e]; exact I.hd k, lk⟩
    · have e3 : setS S h (x :: S h) k = S k := if_neg z
      rw [e3]; exact I.lk k
/-! TakeAll -/
theorem Inv.all0 {h : Bool} (I : Inv pg w S loose (l1 ++ .all0 h :: l2)) (e : top (w.hd h) ≠ 0) : Inv pg w S loose (l1 ++ .all1 h (w.hd h) :: l2) := I.go rfl ⟨Int.le_refl _, e⟩
theorem Inv.all1f {h : Bool} {raw : HV} (I : Inv pg w S loose (l1 ++ .all1 h raw :: l2)) : Inv pg w S loose (l1 ++ .all0 h :: l2) := I.go rfl trivial
theorem Inv.all1 {h : Bool} {raw : HV} (I : Inv pg w S loose (l1 ++ .all1 h raw :: l2)) (e : w.hd h = raw) : S h ≠ [] ∧ top raw = tp (S h) ∧ Inv pg (w.setH h (some (0, tag raw + 1))) (setS S h []) loose (l1 ++ .all2 h [] (S h) :: l2) := by
  obtain ⟨i1, i2⟩ := I.mi _ here
  have ht : top raw = tp (S h) := by rw [← e]; exact I.hd h
  have hne : S h ≠ [] := fun z => i2 (by rw [ht, z]; rfl)
  have sp : ∀ a, a ∈ l1 ++ .all2 h [] (S h) :: l2 → a = .all2 h [] (S h) ∨ a ∈ l1 ++ .all1 h raw :: l2 := fun a ha => mem_mid ha
  refine ⟨hne, ht, ⟨fun z => ?_, fun k z hz => ?_, I.posL, fun a ha => ?_, fun k => ?_, fun k => ?_, fun a ha => ?_⟩⟩
  · have h1 := I.one z
    have h2 := setS_cnt (S := S) (h := h) (xs := []) (x := z)
    rw [List.count_nil] at h2
    rw [cnt_app, cnt_cons] at h1
    have h3 : (hand (.all1 h raw)).count z = 0 := rfl
    have h4 : (hand (.all2 h [] (S h))).count z = (S h).count z := rfl
    rw [cnt_app, cnt_cons]
    omega
  · by_cases q : k = h
    · subst q; rw [setS_same] at hz; cases hz
    · have e2 : setS S h [] k = S k := if_neg q
      rw [e2] at hz; exact I.pos k z hz
  · rcases sp a ha with rfl | ha
    · exact fun x hx => I.pos h x hx
    · exact I.posM a ha
  · by_cases z : k = h
    · subst z
      have e2 : (w.setH k (some (0, tag raw + 1))).hd k = some (0, tag raw + 1) := if_pos rfl
      rw [e2, setS_same]; rfl
    · have e2 : (w.setH h (some (0, tag raw + 1))).hd k = w.hd k := if_neg z
      have e3 : setS S h [] k = S k := if_neg z
      rw [e2, e3]; exact I.hd k
  · by_cases z : k = h
    · subst z; rw [setS_same]; trivial
    · have e3 : setS S h [] k = S k := if_neg z
      rw [e3]; exact I.lk k
  · rcases sp a ha with rfl | ha
    · exact ⟨I.lk h, hne⟩
    · exact MI.setH (by rw [e]; rfl) (I.mi a ha)
theorem Inv.all2 {h : Bool} {t r : List Int} {x : Int} (I : Inv pg w S loose (l1 ++ .all2 h t (x :: r) :: l2)) : w.nx (kd pg h) x = tp r ∧ (r ≠ [] → Inv pg w S loose (l1 ++ .all2 h (t ++ [x]) r :: l2)) := by
  obtain ⟨⟨i1, i2⟩, _⟩ := I.mi _ here
  exact ⟨i1, fun hr => I.go (by show t ++ [x] ++ r = t ++ x :: r; rw [List.append_assoc]; rfl) ⟨i2, hr⟩⟩
theorem Inv.gone {h : Bool} {t : List Int} {x : Int} (I : Inv pg w S loose (l1 ++ .all2 h t [x] :: l2)) : Inv pg w S (loose ++ (t ++ [x])) (l1 ++ l2) := by
  refine ⟨fun z => ?_, I.pos, fun z hz => ?_, fun a ha => I.posM a (mem_out ha), I.hd, I.lk, fun a ha => I.mi a (mem_out ha)⟩
  · have h1 := I.one z
    rw [cnt_app, cnt_cons] at h1
    have h3 : (hand (.all2 h t [x])).count z = (t ++ [x]).count z := rfl
    rw [List.count_append, cnt_app]
    omega
  · rcases List.mem_append.mp hz with hz | hz
    · exact I.posL z hz
    · exact I.posM _ here z hz
/-! new machines -/
theorem Inv.add {ms : List Mch} {a : Mch} (I : Inv pg w S loose ms) (h : hand a = []) (h2 : MI pg w a) : Inv pg w S loose (ms ++ [a]) :=
  I.perm (fun x => by rw [cnt_app, cnt_cons, h]; simp [cnt]) fun b hb => by
    rcases List.mem_append.mp hb with hb | hb
    · exact ⟨I.posM b hb, I.mi b hb⟩
    · rw [List.mem_singleton] at hb; subst hb; exact ⟨(by rw [h]; exact fun x hx => (nomatch hx)), h2⟩
theorem count_erase {x y : Int} : ∀ {l : List Int} {i : Nat}, l[i]? = some y → (l.eraseIdx i).count x + [y].count x = l.count x
  | [], _, e => by simp at e
  | a :: l, 0, e => by
    have e : a = y := by simpa using e
    subst e
    rw [List.eraseIdx_cons_zero, List.count_cons, List.count_cons, List.count_nil]; omega
  | a :: l, i + 1, e => by
    have := count_erase (x := x) (l := l) (i := i) (by simpa using e)
    simp only [List.eraseIdx_cons_succ, List.count_cons, List.count_nil] at this ⊢
    omega
theorem Inv.addPush {ms : List Mch} {h : Bool} {i : Nat} {y : Int} (I : Inv pg w S loose ms) (e : loose[i]? = some y) : Inv pg w S (loose.eraseIdx i) (ms ++ [.push0 h y]) := by
  refine ⟨fun x => ?_, I.pos, fun x hx => I.posL x (List.mem_of_mem_eraseIdx hx), fun a ha => ?_, I.hd, I.lk, fun a ha => ?_⟩
  · have h1 := I.one x
    have h2 := count_erase (x := x) e
    have h3 : (hand (.push0 h y)).count x = [y].count x := rfl
    have h4 : cnt x ([] : List Mch) = 0 := rfl
    rw [cnt_app, cnt_cons]
    omega
  · rcases List.mem_append.mp ha with ha | ha
    · exact I.posM a ha
    · rw [List.mem_singleton] at ha; subst ha
      intro x hx
      have hx : x ∈ [y] := hx
      rw [List.mem_singleton] at hx
      subst hx
      exact I.posL x (List.mem_of_getElem? e)
  · rcases List.mem_append.mp ha with ha | ha
    · exact I.mi a ha
    · rw [List.mem_singleton] at ha; subst ha; trivial
theorem Inv.start {n : Nat} (hn : n ≤ 9) : Inv pg ⟨fun _ => none, fun _ _ => 0⟩ (fun _ => []) ((List.range n).map fun k : Nat => (k : Int)) [] := by
  refine ⟨fun x => ?_, fun _ x hx => (nomatch hx), fun x hx => ?_, fun a ha => (nomatch ha), fun _ => rfl, fun _ => trivial, fun a ha => (nomatch ha)⟩
  · have nd : ((List.range n).map fun k : Nat => (k : Int)).Nodup := by
      refine List.Pairwise.map _ (fun a b h => ?_) List.nodup_range
      omega
    have := List.nodup_iff_count.mp nd x
    show 0 + 0 + List.count x _ + 0 ≤ 1
    omega
  · obtain ⟨k, hk, rfl⟩ := List.mem_map.mp hx
    have := List.mem_range.mp hk
    exact ⟨by omega, by omega⟩
theorem short : ∀ (n : Nat) (l : List Int), (∀ x, l.count x ≤ 1) → (∀ x ∈ l, 0 ≤ x ∧ x < (n : Int)) → l.length ≤ n
  | 0, l, _, h => by
    cases l with
    | nil => exact Nat.le_refl _
    | cons x l => have := h x List.mem_cons_self; omega
  | n + 1, l, h1, h2 => by
    have ih := short n (l.filter fun x => !(x == (n : Int))) (fun x => Nat.le_trans (List.Sublist.count_le x List.filter_sublist) (h1 x)) fun x hx => by
      obtain ⟨hx, hn⟩ := List.mem_filter.mp hx
      have := h2 x hx
      have hn : x ≠ (n : Int) := by simpa using hn
      omega
    have e := List.length_eq_countP_add_countP (fun x : Int => x == (n : Int)) (l := l)
    have c := h1 (n : Int)
    rw [List.count_eq_countP] at c
    have e2 : l.countP (fun x => decide (¬ (x == (n : Int)) = true)) = (l.filter fun x => !(x == (n : Int))).length := by
      rw [List.countP_eq_length_filter]
      congr 1
      apply List.filter_congr
      intro x _
      cases (x == (n : Int)) <;> rfl
    rw [e2] at e
    omega
theorem Inv.lenS {ms : List Mch} (I : Inv pg w S loose ms) (h : Bool) : (S h).length ≤ 9 := short 9 _ (fun x => by have := I.one x; have := S_le (S := S) (h := h) (x := x); omega) (I.pos h)
theorem Inv.lenL {ms : List Mch} (I : Inv pg w S loose ms) : loose.length ≤ 9 := short 9 _ (fun x => by have := I.one x; omega) I.posL
theorem Inv.lenM {ms : List Mch} (I : Inv pg w S loose ms) {a : Mch} (ha : a ∈ ms) : (hand a).length ≤ 9 := short 9 _ (fun x => by have := I.one x; have := cnt_mem (x := x) ha; omega) (I.posM a ha)
theorem Inv.ndS {ms : List Mch} (I : Inv pg w S loose ms) (h : Bool) : (S h).Nodup := List.nodup_iff_count.mpr fun x => by have := I.one x; have := S_le (S := S) (h := h) (x := x); omega
theorem Inv.ndM {ms : List Mch} (I : Inv pg w S loose ms) {a : Mch} (ha : a ∈ ms) : (hand a).Nodup := List.nodup_iff_count.mpr fun x => by have := I.one x; have := cnt_mem (x := x) ha; omega
end
end Stk
namespace Sy
open PySem L2 PySem.Spec PyProof.Rows
def top (i : Nat) : Stmt := PySem.Challenge.pw_slabwarren_k02_woven_stacks.main.body.getD i (.Pass ⟨0, 0, 0, 0⟩)
abbrev s_free_cell : Stmt := top 6
abbrev s_next_cell : Stmt := top 7
abbrev s_head_value : Stmt := top 8
abbrev s_Pop_init : Stmt := inClass (top 12) 0
abbrev s_Pop_topmost : Stmt := inClass (top 12) 2
abbrev s_Push_init : Stmt := inClass (top 13) 0
abbrev s_TakeAll_init : Stmt := inClass (top 14) 0
abbrev s_Memory_init : Stmt := inClass (top 16) 0
abbrev s_Memory_peek : Stmt := inClass (top 16) 4
abbrev s_Memory_set_up : Stmt := inClass (top 16) 5
abbrev s_law_state : Stmt := top 18
abbrev s_law_take : Stmt := top 19
abbrev s_law_new : Stmt := top 21
abbrev s_items_from : Stmt := top 10
abbrev s_items_of : Stmt := top 11
abbrev s_TakeAll_holding : Stmt := inClass (top 14) 2
abbrev s_Memory_read : Stmt := inClass (top 16) 1
abbrev s_Memory_write : Stmt := inClass (top 16) 2
abbrev s_Memory_swap : Stmt := inClass (top 16) 3
abbrev s_law_after : Stmt := top 22
abbrev s_change_head : Stmt := top 9
abbrev s_Pop_read_head : Stmt := inClass (top 12) 3
abbrev s_Pop_swap_head : Stmt := inClass (top 12) 4
abbrev s_Push_write_cell : Stmt := inClass (top 13) 2
abbrev s_Push_swap_head : Stmt := inClass (top 13) 3
abbrev s_TakeAll_read_head : Stmt := inClass (top 14) 3
abbrev s_TakeAll_swap_head : Stmt := inClass (top 14) 4
abbrev s_TakeAll_read_cell : Stmt := inClass (top 14) 5
abbrev s_Pop_step : Stmt := inClass (top 12) 1
abbrev s_Push_step : Stmt := inClass (top 13) 1
abbrev s_TakeAll_step : Stmt := inClass (top 14) 1
abbrev s_law : Stmt := top 23
def cs_head : List String := ["Pop", "Push", "TakeAll"]
theorem ct_head_Pop : cs_head.contains "Pop" = true := by decide +kernel
theorem ct_head_Push : cs_head.contains "Push" = true := by decide +kernel
theorem ct_head_TakeAll : cs_head.contains "TakeAll" = true := by decide +kernel
def cs_done : List String := ["Pop", "Push", "TakeAll"]
theorem ct_done_Pop : cs_done.contains "Pop" = true := by decide +kernel
theorem ct_done_Push : cs_done.contains "Push" = true := by decide +kernel
theorem ct_done_TakeAll : cs_done.contains "TakeAll" = true := by decide +kernel
def cs_result : List String := ["Pop"]
theorem ct_result_Pop : cs_result.contains "Pop" = true := by decide +kernel
def cs_raw : List String := ["Pop", "Push", "TakeAll"]
theorem ct_raw_Pop : cs_raw.contains "Pop" = true := by decide +kernel
theorem ct_raw_Push : cs_raw.contains "Push" = true := by decide +kernel
theorem ct_raw_TakeAll : cs_raw.contains "TakeAll" = true := by decide +kernel
def cs_below : List String := ["Pop"]
theorem ct_below_Pop : cs_below.contains "Pop" = true := by decide +kernel
def cs_stage : List String := ["Pop", "Push", "TakeAll"]
theorem ct_stage_Pop : cs_stage.contains "Pop" = true := by decide +kernel
theorem ct_stage_Push : cs_stage.contains "Push" = true := by decide +kernel
theorem ct_stage_TakeAll : cs_stage.contains "TakeAll" = true := by decide +kernel
def cs_item : List String := ["Push"]
theorem ct_item_Push : cs_item.contains "Push" = true := by decide +kernel
def cs_taken : List String := ["TakeAll"]
theorem ct_taken_TakeAll : cs_taken.contains "TakeAll" = true := by decide +kernel
def cs_rest : List String := ["TakeAll"]
theorem ct_rest_TakeAll : cs_rest.contains "TakeAll" = true := by decide +kernel
def cs_accesses : List String := ["Memory"]
theorem ct_accesses_Memory : cs_accesses.contains "Memory" = true := by decide +kernel
def cs_cells : List String := ["Memory"]
theorem ct_cells_Memory : cs_cells.contains "Memory" = true := by decide +kernel
/-- free_cell -/
def a_free_cell : AS := (sRet (eArgs fTup (gCons' (eC (.str "free")) (gCons' (eVar 0) gNil'))))
def m_free_cell : AF := callA a_free_cell 1 1
/-- next_cell -/
def a_next_cell : AS := (sSeq (sIf (qBl (eBin oEq (eVar 0) (eC (.tup [(.str "pages")])))) (sRet (eArgs fTup (gCons' (eC (.str "page below")) (gCons' (eVar 1) gNil')))) sNext) (sRet (eArgs fTup (gCons' (eC (.str "object below")) (gCons' (eVar 1) gNil')))))
def m_next_cell : AF := callA a_next_cell 2 2
/-- head_value -/
def a_head_value : AS := (sSeq (sIf (qBl (eBin oEq (eVar 0) (eC (.int 0)))) (sRet (eArgs fTup (gCons' (eC (.int 0)) (gCons' (eC (.int 0)) gNil')))) sNext) (sRet (eVar 0)))
def m_head_value : AF := callA a_head_value 1 1
/-- Pop.__init__ -/
def a_Pop_init : AS := (sSeq (sFldSet cs_head "head" (eVar 0) (eVar 1)) (sSeq (sFldSet cs_done "done" (eVar 0) (eC (.bl false))) (sSeq (sFldSet cs_result "result" (eVar 0) (eC .non)) (sSeq (sFldSet cs_raw "raw" (eVar 0) (eC .non)) (sSeq (sFldSet cs_below "below" (eVar 0) (eC (.int 0))) (sFldSet cs_stage "stage" (eVar 0) (eC (.str "read the head"))))))))
def m_Pop_init : AF := callA a_Pop_init 2 2
/-- Pop.topmost -/
def a_Pop_topmost : AS := (sSeq (sAsg (eArgs m_head_value (gCons' (eFld "raw" (eVar 0)) gNil')) (aTup ((aName 1) :: ((aName 2) :: [])))) (sRet (eBin oSub (eVar 1) (eC (.int 1)))))
def m_Pop_topmost : AF := callA a_Pop_topmost 3 1
/-- Push.__init__ -/
def a_Push_init : AS := (sSeq (sFldSet cs_head "head" (eVar 0) (eVar 1)) (sSeq (sFldSet cs_item "item" (eVar 0) (eVar 2)) (sSeq (sFldSet cs_done "done" (eVar 0) (eC (.bl false))) (sSeq (sFldSet cs_raw "raw" (eVar 0) (eC .non)) (sFldSet cs_stage "stage" (eVar 0) (eC (.str "read the head")))))))
def m_Push_init : AF := callA a_Push_init 3 3
/-- TakeAll.__init__ -/
def a_TakeAll_init : AS := (sSeq (sFldSet cs_head "head" (eVar 0) (eVar 1)) (sSeq (sFldSet cs_done "done" (eVar 0) (eC (.bl false))) (sSeq (sFldSet cs_taken "taken" (eVar 0) (eArgs fLst gNil')) (sSeq (sFldSet cs_raw "raw" (eVar 0) (eC .non)) (sSeq (sFldSet cs_rest "rest" (eVar 0) (eC (.int 0))) (sFldSet cs_stage "stage" (eVar 0) (eC (.str "read the head"))))))))
def m_TakeAll_init : AF := callA a_TakeAll_init 2 2
/-- Memory.__init__ -/
def a_Memory_init : AS := (sSeq (sFldSet cs_accesses "accesses" (eVar 0) (eC (.int 0))) (sFldSet cs_cells "cells" (eVar 0) eDNewT))
def m_Memory_init : AF := callA a_Memory_init 1 1
/-- Memory.peek -/
def a_Memory_peek : AS := (sRet (eGet2 (eFld "cells" (eVar 0)) (eVar 1) (eC (.int 0))))
def m_Memory_peek : AF := callA a_Memory_peek 2 2
/-- Memory.set_up -/
def a_Memory_set_up : AS := (sSub (eFld "cells" (eVar 0)) (eVar 1) (eVar 2))
def m_Memory_set_up : AF := callA a_Memory_set_up 3 3
/-- _law_state -/
def a_law_state : AS := (sSeq (sAsg (eLc (itList (eSl (eVar 0) pNone (pPart (eC (.int 63))))) 2 qYes (eArgs fAbs (gCons' (eVar 2) gNil'))) (aName 1)) (sSeq (sIf (qBl (eBin oEq (eArgs fLen (gCons' (eVar 1) gNil')) (eC (.int 0)))) (sAsg (eArgs fLst (gCons' (eC (.int 0)) gNil')) (aName 1)) sNext) (sRet (eArgs fLst (gCons' (eC (.int 0)) (gCons' (eVar 1) gNil'))))))
def m_law_state : AF := callA a_law_state 3 1
/-- _law_take -/
def a_law_take : AS := (sSeq (sAsg (eSub (eVar 0) (eC (.int 1))) (aName 2)) (sSeq (sAsg (eBin oMod (eSub (eVar 0) (eC (.int 0))) (eArgs fLen (gCons' (eVar 2) gNil'))) (aName 3)) (sSeq (sAsg (eSub (eVar 2) (eVar 3)) (aName 4)) (sSeq (sIf (qBl (eBin oGe (eVar 4) (eC (.int 1000000000000000000)))) (sSeq (sSub (eVar 2) (eVar 3) (eBin oDiv (eVar 4) (eVar 1))) (sRet (eBin oMod (eVar 4) (eVar 1)))) sNext) (sSeq (sSub (eVar 0) (eC (.int 0)) (eBin oAdd (eSub (eVar 0) (eC (.int 0))) (eC (.int 1)))) (sSeq (sAsg (eBin oMod (eArgs fInt (gCons' (eBin oAdd (eBin oMul (eVar 4) (eC (.int 48271))) (eBin oMul (eSub (eVar 0) (eC (.int 0))) (eC (.int 69621)))) gNil')) (eC (.int 2147483647))) (aName 5)) (sSeq (sAsg (eBin oMod (eArgs fInt (gCons' (eBin oAdd (eBin oMul (eVar 5) (eC (.int 16807))) (eBin oMul (eSub (eVar 0) (eC (.int 0))) (eC (.int 7919)))) gNil')) (eC (.int 1000000007))) (aName 5)) (sRet (eBin oMod (eBin oDiv (eVar 5) (eC (.int 7))) (eVar 1))))))))))
def m_law_take : AF := callA a_law_take 6 2
/-- _law_new -/
def a_law_new : AS := (sSeq (sAsg (eArgs m_law_take (gCons' (eVar 0) (gCons' (eC (.int 8)) gNil'))) (aName 3)) (sSeq (sAsg (eSub (eVar 2) (eArgs m_law_take (gCons' (eVar 0) (gCons' (eC (.int 2)) gNil')))) (aName 4)) (sSeq (sIf (qAnd (qBl (eBin oLt (eVar 3) (eC (.int 4)))) (qBl (eBin oGt (eArgs fLen (gCons' (eVar 1) gNil')) (eC (.int 0))))) (sSeq (sAsg (eLM mPop1 (eVar 1) (gCons' (eArgs m_law_take (gCons' (eVar 0) (gCons' (eArgs fLen (gCons' (eVar 1) gNil')) gNil'))) gNil')) (aName 5)) (sRet (eArgs fTup (gCons' (eC (.str "push")) (gCons' (eVar 4) (gCons' (eMake "Push" m_Push_init (gCons' (eVar 4) (gCons' (eVar 5) gNil'))) (gCons' (eVar 5) gNil'))))))) sNext) (sSeq (sIf (qBl (eBin oEq (eVar 3) (eC (.int 4)))) (sRet (eArgs fTup (gCons' (eC (.str "all")) (gCons' (eVar 4) (gCons' (eMake "TakeAll" m_TakeAll_init (gCons' (eVar 4) gNil')) (gCons' (eC (.int 0)) gNil')))))) sNext) (sRet (eArgs fTup (gCons' (eC (.str "pop")) (gCons' (eVar 4) (gCons' (eMake "Pop" m_Pop_init (gCons' (eVar 4) gNil')) (gCons' (eC (.int 0)) gNil'))))))))))
def m_law_new : AF := callA a_law_new 6 3
/-- items_from -/
def a_items_from : AS := (sSeq (sAsg (eArgs fLst gNil') (aName 3)) (sSeq (sAsg (eArgs fSet0 gNil') (aName 4)) (sSeq (sWhile (qAnd (qBl (eBin oGt (eVar 2) (eC (.int 0)))) (qBl (eBin oNinC (eVar 2) (eVar 4)))) (sSeq (sExpr (eSAdd (eVar 4) (gCons' (eVar 2) gNil'))) (sSeq (sExpr (eLM mAppend (eVar 3) (gCons' (eBin oSub (eVar 2) (eC (.int 1))) gNil'))) (sAsg (eMethL [("Memory", m_Memory_peek)] "peek" (eVar 0) (gCons' (eArgs m_next_cell (gCons' (eVar 1) (gCons' (eBin oSub (eVar 2) (eC (.int 1))) gNil'))) gNil')) (aName 2))))) (sSeq (sIf (qBl (eBin oGt (eVar 2) (eC (.int 0)))) (sExpr (eLM mAppend (eVar 3) (gCons' (eBin oSub (eVar 2) (eC (.int 1))) gNil'))) sNext) (sRet (eVar 3))))))
def m_items_from : AF := callA a_items_from 5 3
/-- items_of -/
def a_items_of : AS := (sSeq (sAsg (eArgs m_head_value (gCons' (eMethL [("Memory", m_Memory_peek)] "peek" (eVar 0) (gCons' (eVar 1) gNil')) gNil')) (aTup ((aName 2) :: ((aName 3) :: [])))) (sRet (eArgs m_items_from (gCons' (eVar 0) (gCons' (eVar 1) (gCons' (eVar 2) gNil'))))))
def m_items_of : AF := callA a_items_of 4 2
/-- TakeAll.holding -/
def a_TakeAll_holding : AS := (sRet (eBin oAdd (eFld "taken" (eVar 0)) (eArgs m_items_from (gCons' (eVar 1) (gCons' (eFld "head" (eVar 0)) (gCons' (eFld "rest" (eVar 0)) gNil'))))))
def m_TakeAll_holding : AF := callA a_TakeAll_holding 2 2
/-- Memory.read -/
def a_Memory_read : AS := (sSeq (sFldAug' cs_accesses "accesses" oAddI (eVar 0) (eC (.int 1))) (sRet (eMethL [("Memory", m_Memory_peek)] "peek" (eVar 0) (gCons' (eVar 1) gNil'))))
def m_Memory_read : AF := callA a_Memory_read 2 2
/-- Memory.write -/
def a_Memory_write : AS := (sSeq (sFldAug' cs_accesses "accesses" oAddI (eVar 0) (eC (.int 1))) (sExpr (eMethL [("Memory", m_Memory_set_up)] "set_up" (eVar 0) (gCons' (eVar 1) (gCons' (eVar 2) gNil')))))
def m_Memory_write : AF := callA a_Memory_write 3 3
/-- Memory.swap -/
def a_Memory_swap : AS := (sSeq (sFldAug' cs_accesses "accesses" oAddI (eVar 0) (eC (.int 1))) (sSeq (sIf (qBl (eBin oNe (eMethL [("Memory", m_Memory_peek)] "peek" (eVar 0) (gCons' (eVar 1) gNil')) (eVar 2))) (sRet (eC (.bl false))) sNext) (sSeq (sExpr (eMethL [("Memory", m_Memory_set_up)] "set_up" (eVar 0) (gCons' (eVar 1) (gCons' (eVar 3) gNil')))) (sRet (eC (.bl true))))))
def m_Memory_swap : AF := callA a_Memory_swap 4 4
/-- _law_after -/
def a_law_after : AS := (sSeq (sAsg (eVar 0) (aTup ((aName 6) :: ((aName 7) :: ((aName 8) :: ((aName 9) :: [])))))) (sSeq (sAsg (eSub (eVar 2) (eVar 7)) (aName 5)) (sSeq (sIf (qAnd (qBl (eBin oEq (eVar 6) (eC (.str "push")))) (qTru (eFld "done" (eVar 8)))) (sSub (eVar 2) (eVar 7) (eBin oAdd (eArgs fLst (gCons' (eVar 9) gNil')) (eVar 5))) sNext) (sSeq (sIf (qAnd (qBl (eBin oEq (eVar 6) (eC (.str "pop")))) (qTru (eFld "done" (eVar 8)))) (sSeq (sIf (qBl (eBin oIsN (eFld "result" (eVar 8)) (eC .non))) (sRet (eBin oEq (eVar 5) (eArgs fLst gNil'))) sNext) (sSeq (sIf (qOr (qBl (eBin oEq (eVar 5) (eArgs fLst gNil'))) (qBl (eBin oNe (eSub (eVar 5) (eC (.int 0))) (eFld "result" (eVar 8))))) (sRet (eC (.bl false))) sNext) (sSeq (sSub (eVar 2) (eVar 7) (eSl (eVar 5) (pPart (eC (.int 1))) pNone)) (sExpr (eLM mAppend (eVar 3) (gCons' (eFld "result" (eVar 8)) gNil')))))) sNext) (sSeq (sIf (qBl (eBin oEq (eVar 6) (eC (.str "all")))) (sSeq (sAsg (eMethL [("TakeAll", m_TakeAll_holding)] "holding" (eVar 8) (gCons' (eVar 4) gNil')) (aName 10)) (sSeq (sIf (qAnd (qBl (eBin oEq (eVar 1) (eArgs fLst gNil'))) (qBl (eBin oNe (eVar 10) (eArgs fLst gNil')))) (sSeq (sIf (qBl (eBin oNe (eVar 10) (eVar 5))) (sRet (eC (.bl false))) sNext) (sSub (eVar 2) (eVar 7) (eArgs fLst gNil'))) (sIf (qBl (eBin oNe (eVar 10) (eVar 1))) (sRet (eC (.bl false))) sNext)) (sIf (qTru (eFld "done" (eVar 8))) (sSeq (sIf (qOr (qAnd (qBl (eBin oEq (eVar 10) (eArgs fLst gNil'))) (qBl (eBin oNe (eVar 5) (eArgs fLst gNil')))) (qBl (eBin oNe (eFld "taken" (eVar 8)) (eVar 10)))) (sRet (eC (.bl false))) sNext) (sFor (itList (eVar 10)) (aName 11) (sExpr (eLM mAppend (eVar 3) (gCons' (eVar 11) gNil'))))) sNext))) sNext) (sRet (eC (.bl true))))))))
def m_law_after : AF := callA a_law_after 12 5
/-- change_head -/
def a_change_head : AS := (sSeq (sAsg (eArgs m_head_value (gCons' (eVar 2) gNil')) (aTup ((aName 4) :: ((aName 5) :: [])))) (sRet (eMethL [("Memory", m_Memory_swap)] "swap" (eVar 0) (gCons' (eVar 1) (gCons' (eVar 2) (gCons' (eArgs fTup (gCons' (eVar 3) (gCons' (eBin oAdd (eVar 5) (eC (.int 1))) gNil'))) gNil'))))))
def m_change_head : AF := callA a_change_head 6 4
/-- Pop.read_head -/
def a_Pop_read_head : AS := (sSeq (sFldSet cs_raw "raw" (eVar 0) (eMethL [("Memory", m_Memory_read)] "read" (eVar 1) (gCons' (eFld "head" (eVar 0)) gNil'))) (sSeq (sAsg (eArgs m_head_value (gCons' (eFld "raw" (eVar 0)) gNil')) (aTup ((aName 2) :: ((aName 3) :: [])))) (sSeq (sFldSet cs_done "done" (eVar 0) (eBin oEq (eVar 2) (eC (.int 0)))) (sFldSet cs_stage "stage" (eVar 0) (eC (.str "read the cell of an item"))))))
def m_Pop_read_head : AF := callA a_Pop_read_head 4 2
/-- Pop.swap_head -/
def a_Pop_swap_head : AS := (sIf (qTru (eArgs m_change_head (gCons' (eVar 1) (gCons' (eFld "head" (eVar 0)) (gCons' (eFld "raw" (eVar 0)) (gCons' (eFld "below" (eVar 0)) gNil')))))) (sSeq (sFldSet cs_result "result" (eVar 0) (eMethL [("Pop", m_Pop_topmost)] "topmost" (eVar 0) gNil')) (sFldSet cs_done "done" (eVar 0) (eC (.bl true)))) (sFldSet cs_stage "stage" (eVar 0) (eC (.str "read the head"))))
def m_Pop_swap_head : AF := callA a_Pop_swap_head 2 2
/-- Push.write_cell -/
def a_Push_write_cell : AS := (sSeq (sAsg (eArgs m_head_value (gCons' (eFld "raw" (eVar 0)) gNil')) (aTup ((aName 2) :: ((aName 3) :: [])))) (sSeq (sExpr (eMethL [("Memory", m_Memory_write)] "write" (eVar 1) (gCons' (eArgs m_next_cell (gCons' (eFld "head" (eVar 0)) (gCons' (eFld "item" (eVar 0)) gNil'))) (gCons' (eVar 2) gNil')))) (sFldSet cs_stage "stage" (eVar 0) (eC (.str "swap the head")))))
def m_Push_write_cell : AF := callA a_Push_write_cell 4 2
/-- Push.swap_head -/
def a_Push_swap_head : AS := (sSeq (sFldSet cs_done "done" (eVar 0) (eArgs m_change_head (gCons' (eVar 1) (gCons' (eFld "head" (eVar 0)) (gCons' (eFld "raw" (eVar 0)) (gCons' (eBin oAdd (eFld "item" (eVar 0)) (eC (.int 1))) gNil')))))) (sFldSet cs_stage "stage" (eVar 0) (eC (.str "read the head"))))
def m_Push_swap_head : AF := callA a_Push_swap_head 2 2
/-- TakeAll.read_head -/
def a_TakeAll_read_head : AS := (sSeq (sFldSet cs_raw "raw" (eVar 0) (eMethL [("Memory", m_Memory_read)] "read" (eVar 1) (gCons' (eFld "head" (eVar 0)) gNil'))) (sSeq (sAsg (eArgs m_head_value (gCons' (eFld "raw" (eVar 0)) gNil')) (aTup ((aName 2) :: ((aName 3) :: [])))) (sSeq (sFldSet cs_done "done" (eVar 0) (eBin oEq (eVar 2) (eC (.int 0)))) (sFldSet cs_stage "stage" (eVar 0) (eC (.str "swap the head"))))))
def m_TakeAll_read_head : AF := callA a_TakeAll_read_head 4 2
/-- TakeAll.swap_head -/
def a_TakeAll_swap_head : AS := (sIf (qTru (eArgs m_change_head (gCons' (eVar 1) (gCons' (eFld "head" (eVar 0)) (gCons' (eFld "raw" (eVar 0)) (gCons' (eC (.int 0)) gNil')))))) (sSeq (sAsgH (eArgs m_head_value (gCons' (eFld "raw" (eVar 0)) gNil')) (hTup ((hFld cs_rest "rest" (eVar 0)) :: ((hLoc (aName 2)) :: [])))) (sFldSet cs_stage "stage" (eVar 0) (eC (.str "read the cell of an item")))) (sFldSet cs_stage "stage" (eVar 0) (eC (.str "read the head"))))
def m_TakeAll_swap_head : AF := callA a_TakeAll_swap_head 3 2
/-- TakeAll.read_cell -/
def a_TakeAll_read_cell : AS := (sSeq (sAsg (eBin oSub (eFld "rest" (eVar 0)) (eC (.int 1))) (aName 2)) (sSeq (sFldSet cs_rest "rest" (eVar 0) (eMethL [("Memory", m_Memory_read)] "read" (eVar 1) (gCons' (eArgs m_next_cell (gCons' (eFld "head" (eVar 0)) (gCons' (eVar 2) gNil'))) gNil'))) (sSeq (sExpr (eLM mAppend (eFld "taken" (eVar 0)) (gCons' (eVar 2) gNil'))) (sFldSet cs_done "done" (eVar 0) (eBin oEq (eFld "rest" (eVar 0)) (eC (.int 0)))))))
def m_TakeAll_read_cell : AF := callA a_TakeAll_read_cell 3 2
/-- Pop.step -/
def a_Pop_step : AS := (sIf (qBl (eBin oEq (eFld "stage" (eVar 0)) (eC (.str "read the head")))) (sExpr (eMethL [("Pop", m_Pop_read_head)] "read_head" (eVar 0) (gCons' (eVar 1) gNil'))) (sIf (qBl (eBin oEq (eFld "stage" (eVar 0)) (eC (.str "read the cell of an item")))) (sSeq (sFldSet cs_below "below" (eVar 0) (eMethL [("Memory", m_Memory_read)] "read" (eVar 1) (gCons' (eArgs m_next_cell (gCons' (eFld "head" (eVar 0)) (gCons' (eMethL [("Pop", m_Pop_topmost)] "topmost" (eVar 0) gNil') gNil'))) gNil'))) (sFldSet cs_stage "stage" (eVar 0) (eC (.str "swap the head")))) (sExpr (eMethL [("Pop", m_Pop_swap_head)] "swap_head" (eVar 0) (gCons' (eVar 1) gNil')))))
def m_Pop_step : AF := callA a_Pop_step 2 2
/-- Push.step -/
def a_Push_step : AS := (sIf (qBl (eBin oEq (eFld "stage" (eVar 0)) (eC (.str "read the head")))) (sSeq (sFldSet cs_raw "raw" (eVar 0) (eMethL [("Memory", m_Memory_read)] "read" (eVar 1) (gCons' (eFld "head" (eVar 0)) gNil'))) (sFldSet cs_stage "stage" (eVar 0) (eC (.str "write the cell of the item")))) (sIf (qBl (eBin oEq (eFld "stage" (eVar 0)) (eC (.str "write the cell of the item")))) (sExpr (eMethL [("Push", m_Push_write_cell)] "write_cell" (eVar 0) (gCons' (eVar 1) gNil'))) (sExpr (eMethL [("Push", m_Push_swap_head)] "swap_head" (eVar 0) (gCons' (eVar 1) gNil')))))
def m_Push_step : AF := callA a_Push_step 2 2
/-- TakeAll.step -/
def a_TakeAll_step : AS := (sIf (qBl (eBin oEq (eFld "stage" (eVar 0)) (eC (.str "read the head")))) (sExpr (eMethL [("TakeAll", m_TakeAll_read_head)] "read_head" (eVar 0) (gCons' (eVar 1) gNil'))) (sIf (qBl (eBin oEq (eFld "stage" (eVar 0)) (eC (.str "swap the head")))) (sExpr (eMethL [("TakeAll", m_TakeAll_swap_head)] "swap_head" (eVar 0) (gCons' (eVar 1) gNil'))) (sExpr (eMethL [("TakeAll", m_TakeAll_read_cell)] "read_cell" (eVar 0) (gCons' (eVar 1) gNil')))))
def m_TakeAll_step : AF := callA a_TakeAll_step 2 2
/-- law -/
def a_law : AS := (sSeq (sAsg (eArgs m_law_state (gCons' (eVar 0) gNil')) (aName 1)) (sSeq (sAsg (eMake "Memory" m_Memory_init gNil') (aName 2)) (sSeq (sAsg (eArgs fLst (gCons' (eArgs m_free_cell (gCons' (eC (.int 0)) gNil')) (gCons' (eSub (eArgs fLst (gCons' (eC (.tup [(.str "pages")])) (gCons' (eArgs m_free_cell (gCons' (eC (.int 1)) gNil')) gNil'))) (eArgs m_law_take (gCons' (eVar 1) (gCons' (eC (.int 2)) gNil')))) gNil'))) (aName 3)) (sSeq (sAsg (eDispT (((eSub (eVar 3) (eC (.int 0))), (eArgs fLst gNil')) :: (((eSub (eVar 3) (eC (.int 1))), (eArgs fLst gNil')) :: []))) (aName 4)) (sSeq (sAsg (eBin oAdd (eC (.int 1)) (eArgs m_law_take (gCons' (eVar 1) (gCons' (eC (.int 9)) gNil')))) (aName 5)) (sSeq (sAsg (eLc (itR1 (gCons' (eVar 5) gNil')) 14 qYes (eVar 14)) (aName 6)) (sSeq (sAsg (eArgs fLst gNil') (aName 7)) (sSeq (sFor (itR1 (gCons' (eArgs m_law_take (gCons' (eVar 1) (gCons' (eC (.int 151)) gNil'))) gNil')) (aName 8) (sSeq (sIf (qBl (eBin oLt (eArgs fLen (gCons' (eVar 7) gNil')) (eBin oAdd (eC (.int 2)) (eArgs m_law_take (gCons' (eVar 1) (gCons' (eC (.int 4)) gNil')))))) (sExpr (eLM mAppend (eVar 7) (gCons' (eArgs m_law_new (gCons' (eVar 1) (gCons' (eVar 6) (gCons' (eVar 3) gNil')))) gNil'))) sNext) (sSeq (sAsg (eArgs m_law_take (gCons' (eVar 1) (gCons' (eArgs fLen (gCons' (eVar 7) gNil')) gNil'))) (aName 9)) (sSeq (sAsg (eSub (eVar 7) (eVar 9)) (aName 10)) (sSeq (sAsg (eArgs fLst gNil') (aName 11)) (sSeq (sIf (qBl (eBin oEq (eSub (eVar 10) (eC (.int 0))) (eC (.str "all")))) (sAsg (eMethL [("TakeAll", m_TakeAll_holding)] "holding" (eSub (eVar 10) (eC (.int 2))) (gCons' (eVar 2) gNil')) (aName 11)) sNext) (sSeq (sAsg (eFld "accesses" (eVar 2)) (aName 12)) (sSeq (sExpr (eMethL [("Pop", m_Pop_step), ("Push", m_Push_step), ("TakeAll", m_TakeAll_step)] "step" (eSub (eVar 10) (eC (.int 2))) (gCons' (eVar 2) gNil'))) (sSeq (sIf (qOr (qBl (eBin oNe (eFld "accesses" (eVar 2)) (eBin oAdd (eVar 12) (eC (.int 1))))) (qNot (qTru (eArgs m_law_after (gCons' (eVar 10) (gCons' (eVar 11) (gCons' (eVar 4) (gCons' (eVar 6) (gCons' (eVar 2) gNil'))))))))) (sRet (eC (.bl false))) sNext) (sSeq (sIf (qTru (eFld "done" (eSub (eVar 10) (eC (.int 2))))) (sAsg (eBin oAdd (eSl (eVar 7) pNone (pPart (eVar 9))) (eSl (eVar 7) (pPart (eBin oAdd (eVar 9) (eC (.int 1)))) pNone)) (aName 7)) sNext) (sFor (itList (eVar 3)) (aName 13) (sIf (qBl (eBin oNe (eArgs m_items_of (gCons' (eVar 2) (gCons' (eVar 13) gNil'))) (eSub (eVar 4) (eVar 13)))) (sRet (eC (.bl false))) sNext)))))))))))) (sRet (eC (.bl true)))))))))))
def m_law : AF := callA a_law 15 1
def cl_of (C0 C1 C2 C3 : Addr) : String → Addr := fun c => if c = "Pop" then C0 else if c = "Push" then C1 else if c = "TakeAll" then C2 else if c = "Memory" then C3 else 0
end Sy
local macro_rules | `(tactic| push_cast [$ls,*] $[$l]?) => `(tactic| simp only [Sy.w_some, Sy.w_none, Sy.w_bind, Sy.w_map, Sy.w_if, Sy.slot_0, Sy.slot_s, Sy.lst_get, Sy.ins_get, Sy.lstO_lst, Sy.insO_ins, Sy.sel_self, Sy.sel10, Sy.sel01, Sy.sel20, Sy.sel02, Sy.sel30, Sy.sel03, Sy.sel40, Sy.sel04, Sy.sel50, Sy.sel05, Sy.get_set, Sy.get_new, Sy.br_true, Sy.br_false, Sy.next_set, Sy.next_new, Sy.w_var, Sy.w_c, Sy.w_bin, Sy.w_gnil, Sy.w_gcons, Sy.w_args, Sy.w_eif, Sy.w_fld, Sy.w_meth, Sy.w_make, Sy.w_dnewT, Sy.w_dnewK, Sy.w_get2, Sy.w_get1, Sy.kindD_ref, Sy.kindO_dT, Sy.kindO_lT, Sy.kindO_dK, Sy.kindO_lK, Sy.dkO_dK, Sy.dkO_lK, Sy.dtO_dT, Sy.dtO_lT, Sy.dGetB_T, Sy.dGetB_K, Sy.keyT_tup, Sy.key_int, Sy.key_str, Sy.keysOf_nil, Sy.keysOf_cons, Sy.subO_ref, Sy.subO_tup, Sy.subR_lst, Sy.subR_dK, Sy.subR_lK, Sy.subR_dT, Sy.subR_lT, Sy.w_esub, Sy.slO_ref, Sy.slO_ro, Sy.w_sl, Sy.w_pnone, Sy.intO_int, Sy.w_ppart, Sy.w_lm, Sy.w_kw, Sy.blO_bl, Sy.w_bl, Sy.w_tru, Sy.w_not, Sy.w_and, Sy.w_or, Sy.w_yes, Sy.then_nx, Sy.then_rt, Sy.then_bk, Sy.then_ct, Sy.w_seq, Sy.w_next, Sy.w_ret, Sy.w_expr, Sy.w_asg, Sy.w_name, Sy.w_sif, Sy.w_fset, Sy.w_ssub, Sy.end_rt, Sy.end_nx, Sy.refO_ref, Sy.w_faug, Sy.oAdd_i, Sy.oAddI_i, Sy.oSub_i, Sy.oLt_i, Sy.oLe_i, Sy.oGt_i, Sy.oGe_i, Sy.wo_mul, Sy.wo_div, Sy.wo_mod, Sy.oIsN_n, Sy.oNotN_n, Sy.wo_eq, Sy.wo_ne, Sy.dat_int, Sy.dat_bl, Sy.dat_non, Sy.dat_str, Sy.dat_tup, Sy.dat_ref, Sy.datL_nil, Sy.datL_cons, Sy.eqv_ints, Sy.eqv_int, Sy.fAbs_i, Sy.fInt_i, Sy.fInt_b, Sy.fReprB_b, Sy.wf_tup, Sy.wf_lst, Sy.fMax_ii, Sy.atI_0, Sy.atI_1, Sy.atI_2, Sy.atI_3, Sy.subPut_ref, Sy.subW_lst, Sy.subW_dT, Sy.subW_dK, Sy.fldOf_ref, Sy.fldPut_ref, Sy.wp_putW, Sy.meth_ref, Sy.tru_bl, Sy.tru_int, Sy.tru_non, Sy.w_for, Sy.itO_tup, Sy.itO_ref, Sy.itO_ro, Sy.w_itList, Sy.r1O_1, Sy.w_itR1, Sy.w_lc, Sy.aTup_tup, Sy.goT_nil, Sy.goT_cons, Sy.w_asgT, Sy.w_andV, Sy.w_orV, Sy.w_chain, Sy.w_un, Sy.fNotV_b, Sy.fNeg_i, Sy.w_break, Sy.w_cont, Sy.w_retN, Sy.w_aug, Sy.oIsB_b, Sy.oNotB_b, Sy.inB_ref, Sy.wo_in, Sy.wo_nin, Sy.inW_lst, Sy.inW_dK, Sy.inW_dT, Sy.w_prs0, Sy.w_prs, Sy.w_dispK, Sy.w_dispT, Sy.keysK_nil, Sy.keysK_cons, Sy.keysT_nil, Sy.keysT_cons, Sy.isDK_yes, Sy.isDT_yes, Sy.merM_nil, Sy.merM_cons, Sy.w_asgH, Sy.w_hLoc, Sy.w_hFld, Sy.hTup_tup, Sy.w_goH0, Sy.w_goH, Sy.sv_isSome, Sy.sv_isSome0, Sy.sv_map1, Sy.sv_map0, Sy.sv_app1, Sy.sv_app0, Sy.sv_rep1, Sy.sv_rep0, Sy.sv_set0, Sy.sv_set1, Sy.sv_bind, Sy.sv_omap, Sy.sv_getD, Sy.sv_getD0, Sy.sv_if1, Sy.sv_if0, Sy.sv_eq, Sy.sv_or1, Sy.sv_or2, Sy.sv_and0, Sy.sv_and1, Sy.sv_and2, Sy.sv_len1, Sy.sv_len0, Sy.sv_dec1, Sy.sv_dec0, Sy.sv_not1, Sy.sv_not0, Sy.look_nil, Sy.look_cons, Sy.put_nil, Sy.put_cons, Sy.wo_inC, Sy.wo_ninC, Sy.inC_ref, Sy.inCW_st, Sy.inCW_lst, Sy.inCW_dK, Sy.inCW_dT, Sy.w_rev, Sy.w_sadd, Sy.stO_st, Sy.fSet0_0, Sy.w_match, Sy.inC_tup, String.reduceEq, Int.reduceEq, Int.reduceLT, Int.reduceLE, Int.reduceNeg, Int.reducePow, Nat.reducePow, Nat.reduceAdd, Nat.reduceLeDiff, Nat.reduceLT, Nat.reduceSub, Int.reduceAdd, Int.reduceSub, reduceCtorEq, Int.reduceNe, Nat.reduceEqDiff, Sy.ct_head_Pop, Sy.ct_head_Push, Sy.ct_head_TakeAll, Sy.ct_done_Pop, Sy.ct_done_Push, Sy.ct_done_TakeAll, Sy.ct_result_Pop, Sy.ct_raw_Pop, Sy.ct_raw_Push, Sy.ct_raw_TakeAll, Sy.ct_below_Pop, Sy.ct_stage_Pop, Sy.ct_stage_Push, Sy.ct_stage_TakeAll, Sy.ct_item_Push, Sy.ct_taken_TakeAll, Sy.ct_rest_TakeAll, Sy.ct_accesses_Memory, Sy.ct_cells_Memory, $ls,*] $[$l]?)
namespace Sy
open PySem L2
section
variable {M : AH} {s c : Nat} {most : Int} {Q : AV × AH → Prop}
theorem wp_take (h : St M s c) (hm : 0 < most ∧ most < 1073741824) (k : ∀ (r : Int) (M' : AH), 0 ≤ r → r < most → St M' s c → (∀ n, n ≠ s → n ≠ c → M'.get n = M.get n) → M'.next = M.next → Q (.int r, M')) : wpO (m_law_take [.ref s, .int most] M) Q := by
  obtain ⟨ne, sl, cl', i, cs, h1, h2, h3, h4, h5, h6⟩ := h
  have hl : 0 < (cs.length : Int) := by
    have := List.length_pos_iff.mpr h3
    omega
  obtain ⟨j, hj⟩ : ∃ j : Nat, i % (cs.length : Int) = (j : Int) := ⟨(i % (cs.length : Int)).toNat, (Int.toNat_of_nonneg (Int.emod_nonneg _ (by omega))).symm⟩
  have hjl : j < cs.length := by
    have := Int.emod_lt_of_pos i hl
    omega
  obtain ⟨x, hx⟩ : ∃ x, cs[j]? = some x := ⟨cs[j], List.getElem?_eq_getElem hjl⟩
  have hx0 : 0 ≤ x := h6 x (List.mem_of_getElem? hx)
  have hxA : atI (cs.map AV.int) (j : Int) = some (.int x) := L2.atI_nat (by rw [List.getElem?_map, hx]; rfl)
  have hlen : ((cs.map AV.int).length : Int) = (cs.length : Int) := by rw [List.length_map]
  have hll : fLen [.ref c] M = some (.int (cs.map AV.int).length, M) := fLen_l h2
  unfold m_law_take
  rw [w_call]
  refine ⟨rfl, ?_⟩
  unfold a_law_take
  (try push_cast [h1, h2, hll, hlen, hj, hxA])
  refine ⟨hl, ?_⟩
  have hix : ixN cs.length (j : Int) = some j := ixN_nat' hjl
  refine br_dec (fun hb => ?_) (fun hb => ?_)
  · (try push_cast [h1, h2, hlen, List.length_map, hix])
    refine ⟨hm, hm.1, ?_⟩
    refine k _ _ (Int.emod_nonneg _ (by omega)) (Int.emod_lt_of_pos _ hm.1) ⟨ne, sl, cl', i, cs.set j (x / most), ?_, ?_, ?_, h4, by rw [List.length_set]; exact h5, fun y hy => ?_⟩ (fun n n1 n2 => ?_) rfl
    · rw [get_set, sel_ne ne]; exact h1
    · rw [get_set, sel_self, List.map_set]
    · intro z
      have := congrArg List.length z
      rw [List.length_set] at this
      exact h3 (List.length_eq_zero_iff.mp this)
    · rcases List.mem_or_eq_of_mem_set hy with hy | hy
      · exact h6 y hy
      · rw [hy]; exact Int.ediv_nonneg hx0 (by omega)
    · rw [get_set, sel_ne n2]
  · (try push_cast [h1, h2, hlen, List.length_map, hix, ixN_1, ixN_0])
    refine ⟨hm.1, ?_⟩
    refine k _ _ (Int.emod_nonneg _ (by omega)) (Int.emod_lt_of_pos _ hm.1) ⟨ne, sl, cl', i + 1, cs, ?_, ?_, h3, by omega, h5, h6⟩ (fun n n1 n2 => ?_) rfl
    · rw [get_set, sel_self]
    · rw [get_set, sel_ne ne.symm]; exact h2
    · rw [get_set, sel_ne n1]
theorem wp_state {ns : List Int} (hl : ns.length ≤ 63) (k : ∀ (s c : Nat) (M' : AH), St M' s c → (∀ n, n < M.next → M'.get n = M.get n) → M.next ≤ s → M.next ≤ c → Q (.ref s, M')) : wpO (m_law_state [.ro (ns.map .int)] M) Q := by
  unfold m_law_state
  rw [w_call]
  refine ⟨rfl, ?_⟩
  unfold a_law_state
  (try push_cast [])
  have hc : cutA (ns.map AV.int) none (some 63) = ns.map AV.int := by
    show (List.drop 0 _).take (HT.sIx _ _ (some ((63 : Nat) : Int)) - 0) = _
    rw [HT.sIx_nat, List.drop_zero, List.length_map]
    exact List.take_of_length_le (by rw [List.length_map]; omega)
  rw [hc]
  refine wp_lcp (M := M.new (.lst (ns.map .int))) (fun v => match v with | .int i => .int (if i < 0 then -i else i) | v => v) (by rw [List.length_map]; omega) (fun acc => ?_) (fun x hx acc Q q => ?_) ?_
  · rw [okL_eq, get_new, sel_lt (by rw [next_new]; omega), get_new, sel_self]
    rfl
  · obtain ⟨i, _, rfl⟩ := List.mem_map.mp hx
    (try push_cast [])
    exact q
  · rw [List.map_map]
    have hm : ((fun v => match v with | AV.int i => AV.int (if i < 0 then -i else i) | v => v) ∘ AV.int) = AV.int ∘ fun i => if i < 0 then -i else i := rfl
    rw [hm, ← List.map_map]
    generalize hg : ns.map (fun i => if i < 0 then -i else i) = gs
    have hg0 : ∀ x ∈ gs, 0 ≤ x := by
      intro x hx
      rw [← hg] at hx
      obtain ⟨i, _, rfl⟩ := List.mem_map.mp hx
      split <;> omega
    have hgl : gs.length ≤ 63 := by rw [← hg, List.length_map]; exact hl
    have hlen : fLen [.ref (M.next + 1)] ((M.new (.lst (ns.map .int))).new (.lst (gs.map .int))) = some (.int (gs.map AV.int).length, (M.new (.lst (ns.map .int))).new (.lst (gs.map .int))) := fLen_l (by rw [get_new, next_new, sel_self])
    (try push_cast [hlen])
    cases gs with
    | nil =>
      refine br_dec (fun _ => ?_) (fun z => absurd rfl z)
      (try push_cast [])
      refine k _ (M.next + 1 + 1) _ ⟨?_, ?_, ?_, 0, [0], ?_, ?_, ?_, by omega, by decide, ?_⟩ (fun n hn => ?_) ?_ ?_
      all_goals try (try push_cast [])
      all_goals first | omega | rfl | skip
      · exact fun z => nomatch z
      · intro x hx
        rw [List.mem_singleton.mp hx]
        omega
      · rw [sel_lt (by omega), sel_lt (by omega), sel_lt (by omega), sel_lt (by omega)]
    | cons g gs =>
      refine br_dec (fun z => by rw [List.length_map, List.length_cons] at z; omega) (fun _ => ?_)
      (try push_cast [])
      refine k _ (M.next + 1) _ ⟨?_, ?_, ?_, 0, g :: gs, ?_, ?_, ?_, by omega, ?_, ?_⟩ (fun n hn => ?_) ?_ ?_
      all_goals try (try push_cast [])
      all_goals first | omega | rfl | skip
      · exact fun z => nomatch z
      · rw [List.length_cons] at hgl; omega
      · rw [sel_lt (by omega), sel_lt (by omega), sel_lt (by omega)]
end
end Sy
namespace Sy
open PySem L2
/-! ### the memory -/
abbrev memF (acc : Int) (d : Nat) : List (String × AV) := [("accesses", .int acc), ("cells", .ref d)]
section
variable {M : AH} {m d : Nat} {acc : Int} {kvs : List (List AK × AV)} {ks : List AV} {key : List AK} {v w : AV} {Q : AV × AH → Prop}
theorem wp_mem_init (h : M.get m = some (.ins "Memory" [])) (hm : m < M.next) (k : Q (.non, ((M.set m (.ins "Memory" [("accesses", .int 0)])).new (.dT [])).set m (.ins "Memory" (memF 0 M.next)))) : wpO (m_Memory_init [.ref m] M) Q := by
  unfold m_Memory_init
  rw [w_call]
  refine ⟨rfl, ?_⟩
  unfold a_Memory_init
  (try push_cast [h, ct_accesses_Memory, ct_cells_Memory, sel_lt hm])
  exact k
theorem wp_peek (h : M.get m = some (.ins "Memory" (memF acc d))) (hd : M.get d = some (.dT kvs)) (hk : keysOf ks = some key) (k : Q ((look kvs key).getD (.int 0), M)) : wpO (m_Memory_peek [.ref m, .tup ks] M) Q := by
  unfold m_Memory_peek
  rw [w_call]
  refine ⟨rfl, ?_⟩
  unfold a_Memory_peek
  (try push_cast [h, hd, hk])
  exact k
theorem wp_set_up (h : M.get m = some (.ins "Memory" (memF acc d))) (hd : M.get d = some (.dT kvs)) (hl : kvs.length < 100000) (hk : keysOf ks = some key) (k : Q (.non, M.set d (.dT (putM kvs key v)))) : wpO (m_Memory_set_up [.ref m, .tup ks, v] M) Q := by
  unfold m_Memory_set_up
  rw [w_call]
  refine ⟨rfl, ?_⟩
  unfold a_Memory_set_up
  (try push_cast [h, hd, hk])
  exact ⟨hl, k⟩
theorem wp_read (h : M.get m = some (.ins "Memory" (memF acc d))) (hd : M.get d = some (.dT kvs)) (hk : keysOf ks = some key) (k : Q ((look kvs key).getD (.int 0), M.set m (.ins "Memory" (memF (acc + 1) d)))) : wpO (m_Memory_read [.ref m, .tup ks] M) Q := by
  have ne : d ≠ m := by rintro rfl; rw [h] at hd; cases hd
  unfold m_Memory_read
  rw [w_call]
  refine ⟨rfl, ?_⟩
  unfold a_Memory_read
  (try push_cast [h, ct_accesses_Memory])
  refine wp_peek (acc := acc + 1) (d := d) (kvs := kvs) ?_ ?_ hk ?_
  · rw [get_set, sel_self]
  · rw [get_set, sel_ne ne]; exact hd
  (try push_cast [])
  exact k
theorem wp_write (h : M.get m = some (.ins "Memory" (memF acc d))) (hd : M.get d = some (.dT kvs)) (hl : kvs.length < 100000) (hk : keysOf ks = some key) (k : Q (.non, (M.set m (.ins "Memory" (memF (acc + 1) d))).set d (.dT (putM kvs key v)))) : wpO (m_Memory_write [.ref m, .tup ks, v] M) Q := by
  have ne : d ≠ m := by rintro rfl; rw [h] at hd; cases hd
  unfold m_Memory_write
  rw [w_call]
  refine ⟨rfl, ?_⟩
  unfold a_Memory_write
  (try push_cast [h, ct_accesses_Memory])
  refine wp_set_up (acc := acc + 1) (d := d) (kvs := kvs) ?_ ?_ hl hk ?_
  · rw [get_set, sel_self]
  · rw [get_set, sel_ne ne]; exact hd
  (try push_cast [])
  exact k
/-- values in a cell: a number or a pair of numbers -/
inductive VOk : AV → PyData → Prop where
  | int (i : Int) : VOk (.int i) (.int i)
  | tup (i j : Int) : VOk (.tup [.int i, .int j]) (.tuple [.int i, .int j])
theorem VOk.dat {v : AV} {x : PyData} (h : VOk v x) : dat 8 M v = some x := by
  cases h with
  | int i => rfl
  | tup i j => rfl
theorem wp_swap {x y : PyData} (h : M.get m = some (.ins "Memory" (memF acc d))) (hd : M.get d = some (.dT kvs)) (hl : kvs.length < 100000) (hk : keysOf ks = some key) (ho : VOk ((look kvs key).getD (.int 0)) x) (hw : VOk w y)
    (k : Q (.bl (PyData.eqv x y), if PyData.eqv x y = true then (M.set m (.ins "Memory" (memF (acc + 1) d))).set d (.dT (putM kvs key v)) else M.set m (.ins "Memory" (memF (acc + 1) d)))) : wpO (m_Memory_swap [.ref m, .tup ks, w, v] M) Q := by
  have ne : d ≠ m := by rintro rfl; rw [h] at hd; cases hd
  unfold m_Memory_swap
  rw [w_call]
  refine ⟨rfl, ?_⟩
  unfold a_Memory_swap
  (try push_cast [h, ct_accesses_Memory])
  refine wp_peek (acc := acc + 1) (d := d) (kvs := kvs) ?_ ?_ hk ?_
  · rw [get_set, sel_self]
  · rw [get_set, sel_ne ne]; exact hd
  (try push_cast [ho.dat, hw.dat])
  cases e : PyData.eqv x y with
  | false =>
    rw [e] at k
    (try push_cast [])
    exact k
  | true =>
    rw [e] at k
    (try push_cast [])
    refine wp_set_up (acc := acc + 1) (d := d) (kvs := kvs) ?_ ?_ hl hk ?_
    · rw [get_set, sel_self]
    · rw [get_set, sel_ne ne]; exact hd
    (try push_cast [])
    exact k
end
end Sy
/-! the stacks' things in the heap: what no program is asked for -/
namespace Sy
open PySem L2
open Stk (HV tag kd tp Lk Mch)
theorem look_putM {κ α : Type} [DecidableEq κ] {k k' : κ} {v : α} : ∀ {kvs : List (κ × α)}, look (putM kvs k v) k' = if k = k' then some v else look kvs k' := by
  intro kvs
  have hm : ∀ l : List (κ × α), (l.any fun kv => decide (kv.1 = k)) = true → look (l.map fun kv => if kv.1 = k then (kv.1, v) else kv) k' = if k = k' then some v else look l k' := by
    intro l
    induction l with
    | nil => intro h; cases h
    | cons p l ih =>
      intro h
      obtain ⟨a, b⟩ := p
      rw [List.map_cons]
      by_cases e : a = k
      · subst e
        rw [if_pos rfl]
        unfold look
        by_cases e2 : a = k'
        · rw [if_pos e2, if_pos e2]
        · rw [if_neg e2, if_neg e2, if_neg e2]
          have : ∀ l : List (κ × α), look (l.map fun kv => if kv.1 = a then (kv.1, v) else kv) k' = look l k' := by
            intro l
            induction l with
            | nil => rfl
            | cons q l ih2 =>
              obtain ⟨c, d⟩ := q
              rw [List.map_cons]
              by_cases e3 : c = a
              · subst e3; rw [if_pos rfl]; unfold look; rw [if_neg e2, if_neg e2]; exact ih2
              · rw [if_neg e3]; unfold look; rw [ih2]
          exact this l
      · rw [if_neg e]
        unfold look
        rw [List.any_cons, decide_eq_false e, Bool.false_or] at h
        rw [ih h]
        by_cases e2 : a = k'
        · rw [if_pos e2, if_pos e2]
          rw [if_neg (fun z => e (e2.trans z.symm))]
        · rw [if_neg e2, if_neg e2]
  have ha : ∀ l : List (κ × α), (l.any fun kv => decide (kv.1 = k)) = false → look (l ++ [(k, v)]) k' = if k = k' then some v else look l k' := by
    intro l
    induction l with
    | nil => intro _; unfold look; rfl
    | cons p l ih =>
      intro h
      obtain ⟨a, b⟩ := p
      rw [List.any_cons, Bool.or_eq_false_iff] at h
      rw [List.cons_append]
      unfold look
      rw [ih h.2]
      by_cases e2 : a = k'
      · rw [if_pos e2, if_pos e2]
        rw [if_neg (fun z => by have := h.1; rw [decide_eq_false_iff_not] at this; exact this (e2.trans z.symm))]
      · rw [if_neg e2, if_neg e2]
  unfold putM
  by_cases h : (kvs.any fun kv => decide (kv.1 = k)) = true
  · rw [if_pos h]; exact hm kvs h
  · rw [if_neg h]; exact ha kvs (by rw [Bool.not_eq_true] at h; exact h)
theorem putM_len {κ α : Type} [DecidableEq κ] {k : κ} {v : α} {kvs : List (κ × α)} : (putM kvs k v).length ≤ kvs.length + 1 := by
  unfold putM
  split
  · rw [List.length_map]; omega
  · rw [List.length_append]; exact Nat.le_refl _
def hvA : HV → AV
  | none => .int 0
  | some p => .tup [.int p.1, .int p.2]
def hvD : HV → PyData
  | none => .int 0
  | some p => .tuple [.int p.1, .int p.2]
theorem hv_ok : ∀ v : HV, VOk (hvA v) (hvD v)
  | none => .int 0
  | some _ => .tup _ _
theorem hvD_eq : ∀ v u : HV, PyData.eqv (hvD v) (hvD u) = decide (v = u)
  | none, none => by unfold hvD; rw [eqv_int]; simp
  | none, some _ => by unfold hvD; rw [PyData.eqv]; simp
  | some _, none => by unfold hvD; rw [PyData.eqv]; simp
  | some (a, b), some (c, d) => by
    unfold hvD
    rw [PyData.eqv, PyData.eqvAll, PyData.eqvAll, PyData.eqvAll, eqv_int, eqv_int]
    by_cases h1 : a = c
    · by_cases h2 : b = d
      · subst h1 h2; simp
      · simp [h1, h2]
    · simp [h1]
def hkA (pg h : Bool) : List AV := match h, pg with
  | false, _ => [.str "free", .int 0]
  | true, false => [.str "free", .int 1]
  | true, true => [.str "pages"]
def hk (pg h : Bool) : List AK := match h, pg with
  | false, _ => [.s "free", .i 0]
  | true, false => [.s "free", .i 1]
  | true, true => [.s "pages"]
def nkA (k : Bool) (x : Int) : List AV := [.str (if k = true then "page below" else "object below"), .int x]
def nk (k : Bool) (x : Int) : List AK := [.s (if k = true then "page below" else "object below"), .i x]
theorem hk_of {pg h : Bool} : keysOf (hkA pg h) = some (hk pg h) := by cases h <;> cases pg <;> rfl
theorem nk_of {k : Bool} {x : Int} : keysOf (nkA k x) = some (nk k x) := rfl
theorem hk_inj {pg h j : Bool} : hk pg h = hk pg j ↔ h = j := by cases h <;> cases j <;> cases pg <;> simp [hk]
theorem nk_inj {k j : Bool} {x y : Int} : nk k x = nk j y ↔ k = j ∧ x = y := by cases k <;> cases j <;> simp [nk]
theorem hk_nk {pg h k : Bool} {x : Int} : hk pg h ≠ nk k x := by cases h <;> cases k <;> cases pg <;> simp [hk, nk]
/-- the cells are those of w -/
structure Mm (pg : Bool) (kvs : List (List AK × AV)) (w : Stk.Wd) : Prop where
  h : ∀ h, (look kvs (hk pg h)).getD (.int 0) = hvA (w.hd h)
  n : ∀ k x, (look kvs (nk k x)).getD (.int 0) = .int (w.nx k x)
theorem Mm.start {pg : Bool} : Mm pg [] ⟨fun _ => none, fun _ _ => 0⟩ := ⟨fun _ => rfl, fun _ _ => rfl⟩
theorem Mm.setH {pg : Bool} {kvs : List (List AK × AV)} {w : Stk.Wd} (m : Mm pg kvs w) (h : Bool) (v : HV) : Mm pg (putM kvs (hk pg h) (hvA v)) (w.setH h v) := by
  refine ⟨fun j => ?_, fun k x => ?_⟩
  · rw [look_putM]
    by_cases e : j = h
    · subst e
      rw [if_pos rfl]
      show hvA v = hvA (if j = j then v else _)
      rw [if_pos rfl]
    · rw [if_neg (fun z => e (hk_inj.mp z).symm)]
      show _ = hvA (if j = h then v else w.hd j)
      rw [if_neg e]
      exact m.h j
  · rw [look_putM, if_neg hk_nk]
    exact m.n k x
theorem Mm.setN {pg : Bool} {kvs : List (List AK × AV)} {w : Stk.Wd} (m : Mm pg kvs w) (k : Bool) (x y : Int) : Mm pg (putM kvs (nk k x) (.int y)) (w.setN k x y) := by
  refine ⟨fun j => ?_, fun j z => ?_⟩
  · rw [look_putM, if_neg (fun e => hk_nk e.symm)]
    exact m.h j
  · rw [look_putM]
    by_cases e : j = k ∧ z = x
    · rw [if_pos (nk_inj.mpr ⟨e.1.symm, e.2.symm⟩)]
      show AV.int y = .int (if j = k ∧ z = x then y else _)
      rw [if_pos e]
    · rw [if_neg (fun q => e ⟨(nk_inj.mp q).1.symm, (nk_inj.mp q).2.symm⟩)]
      show _ = AV.int (if j = k ∧ z = x then y else w.nx j z)
      rw [if_neg e]
      exact m.n j z
end Sy
/-! the program's words over the stacks -/
namespace Sy
open PySem L2
open Stk (HV tag kd tp Lk Mch)
section
variable {M M' : AH} {m d : Nat} {acc : Int} {kvs : List (List AK × AV)} {pg h : Bool} {v : HV} {x : Int} {w : Stk.Wd} {Q : AV × AH → Prop}
theorem wp_head_value (k : Q (.tup [.int (Stk.top v), .int (tag v)], M)) : wpO (m_head_value [hvA v] M) Q := by
  (unfold m_head_value; rw [w_call]; refine ⟨rfl, ?_⟩; unfold a_head_value)
  have e : PyData.eqv (hvD v) (.int 0) = decide (v = none) := hvD_eq v none
  (try push_cast [(hv_ok v).dat, e])
  cases v with
  | none => (try push_cast []); exact k
  | some p => (try push_cast [reduceCtorEq]); exact k
theorem wp_next_cell (k : Q (.tup (nkA (kd pg h) x), M)) : wpO (m_next_cell [.tup (hkA pg h), .int x] M) Q := by
  (unfold m_next_cell; rw [w_call]; refine ⟨rfl, ?_⟩; unfold a_next_cell)
  cases h <;> cases pg <;> ((try push_cast [hkA]); simp [PyData.eqv, PyData.eqvAll, br_true, br_false]; (try push_cast []); exact k)
theorem Lk_app {nx : Int → Int} : ∀ {a b : List Int}, Lk nx (a ++ b) → Lk nx b
  | [], _, h => h
  | _ :: _, _, h => Lk_app h.2
theorem set_new0 {o u o' : AO} : ((M.new o).new u).set M.next o' = (M.new o').new u := AH.ext' (fun n => by
  show (if n = M.next then some o' else if n = M.next + 1 then some u else if n = M.next then some o else M.get n) = (if n = M.next + 1 then some u else if n = M.next then some o' else M.get n)
  by_cases e : n = M.next
  · subst e; simp
  · simp [e]) rfl
theorem set_new1 {o u u' : AO} : ((M.new o).new u).set (M.next + 1) u' = (M.new o).new u' := AH.ext' (fun n => by
  show (if n = M.next + 1 then some u' else if n = M.next + 1 then some u else if n = M.next then some o else M.get n) = (if n = M.next + 1 then some u' else if n = M.next then some o else M.get n)
  by_cases e : n = M.next + 1
  · subst e; simp
  · simp [e]) rfl
/-- a walk down a stack, by the cells -/
theorem wp_items_from {xs : List Int} (hm : M.get m = some (.ins "Memory" (memF acc d))) (hd : M.get d = some (.dT kvs)) (ml : m < M.next) (dl : d < M.next) (mm : Mm pg kvs w) (lk : Lk (w.nx (kd pg h)) xs) (pos : ∀ x ∈ xs, 0 ≤ x) (hl : xs.length < 1000) (nd : xs.Nodup)
    (k : ∀ S n, Q (.ref M.next, (M.new (.lst (xs.map .int))).new (.st S n))) : wpO (m_items_from [.ref m, .tup (hkA pg h), .int (tp xs)] M) Q := by
  (unfold m_items_from; rw [w_call]; refine ⟨rfl, ?_⟩; unfold a_items_from)
  (try push_cast [])
  refine wp_while (fun n σ M' => ∃ a r S, xs = a ++ r ∧ n = r.length ∧ (∀ j, S j = true → ∃ y ∈ a, j = y + 1) ∧ σ = [some (.ref m), some (.tup (hkA pg h)), some (.int (tp r)), some (.ref M.next), some (.ref (M.next + 1))] ∧ ∃ c, c ≤ a.length ∧ M' = (M.new (.lst (a.map .int))).new (.st S c)) (m0 := xs.length) ⟨[], xs, fun _ => false, rfl, rfl, (by intro j z; cases z), rfl, 0, Nat.le_refl _, rfl⟩ (by omega) ?_
  rintro n σ M' ⟨a, r, S, e, rfl, hS, rfl, c, hc, rfl⟩
  have al : (a.map AV.int).length < 100000 := by
    have := congrArg List.length e
    rw [List.length_append] at this
    rw [List.length_map]; omega
  have al2 : a.length < 1000 := by
    have := congrArg List.length e
    rw [List.length_append] at this
    omega
  (try push_cast [])
  cases r with
  | nil =>
    have t0 : tp ([] : List Int) = 0 := rfl
    rw [t0]
    rw [List.append_nil] at e
    subst e
    (try push_cast [])
    exact k _ _
  | cons x r =>
    have px : 0 ≤ x := pos x (by rw [e]; simp)
    have t1 : tp (x :: r) = x + 1 := rfl
    have nS : S (x + 1) = false := by
      cases q : S (x + 1) with
      | false => rfl
      | true =>
        obtain ⟨y, hy, ey⟩ := hS _ q
        rw [e, List.nodup_append] at nd
        have := nd.2.2 y hy x List.mem_cons_self
        omega
    have d1 : decide (x + 1 > 0) = true := decide_eq_true (by omega)
    have hc4 : c + 1 < 4096 := by omega
    (try push_cast [t1, d1, nS])
    have ex : x + 1 - 1 = x := by omega
    have ea : mAppend (.ref M.next) [.int x] ((M.new (.lst (a.map .int))).new (.st (fun j => S j || decide (j = x + 1)) (c + 1))) = some (.non, (M.new (.lst ((a ++ [x]).map .int))).new (.st (fun j => S j || decide (j = x + 1)) (c + 1))) := by
      rw [mAppend_l (xs := a.map .int) (by rw [get_new, sel_lt (by show M.next < M.next + 1; omega), get_new, sel_self]) al, set_new0, List.map_append]
      rfl
    (try push_cast [t1, set_new1, ex, ea, nS])
    refine ⟨hc4, ?_⟩
    (try push_cast [ea, ex, sel_lt ml, sel_lt (Nat.lt_succ_of_lt ml), hm, lst_get, get_new, set_new1])
    refine wp_next_cell ?_
    (try push_cast [])
    refine wp_peek (acc := acc) (d := d) (kvs := kvs) (by rw [get_new, sel_lt (by rw [next_new]; omega), get_new, sel_lt ml]; exact hm) (by rw [get_new, sel_lt (by rw [next_new]; omega), get_new, sel_lt dl]; exact hd) nk_of ?_
    rw [mm.n]
    (try push_cast [])
    have lk2 : Lk (w.nx (kd pg h)) (x :: r) := Lk_app (e ▸ lk)
    rw [lk2.1]
    refine ⟨r.length, Nat.lt_succ_self _, a ++ [x], r, fun j => S j || decide (j = x + 1), by rw [e, List.append_assoc]; rfl, rfl, fun j z => ?_, rfl, c + 1, by rw [List.length_append]; simp; omega, rfl⟩
    rw [Bool.or_eq_true] at z
    rcases z with z | z
    · obtain ⟨y, hy, ey⟩ := hS j z
      exact ⟨y, List.mem_append_left _ hy, ey⟩
    · exact ⟨x, List.mem_append_right _ List.mem_cons_self, of_decide_eq_true z⟩
theorem wp_items_of {xs : List Int} (hm : M.get m = some (.ins "Memory" (memF acc d))) (hd : M.get d = some (.dT kvs)) (ml : m < M.next) (dl : d < M.next) (mm : Mm pg kvs w) (ht : Stk.top (w.hd h) = tp xs) (lk : Lk (w.nx (kd pg h)) xs) (pos : ∀ x ∈ xs, 0 ≤ x) (hl : xs.length < 1000) (nd : xs.Nodup)
    (k : ∀ S n, Q (.ref M.next, (M.new (.lst (xs.map .int))).new (.st S n))) : wpO (m_items_of [.ref m, .tup (hkA pg h)] M) Q := by
  (unfold m_items_of; rw [w_call]; refine ⟨rfl, ?_⟩; unfold a_items_of)
  (try push_cast [hm])
  refine wp_peek (acc := acc) (d := d) (kvs := kvs) hm hd hk_of ?_
  rw [mm.h]
  (try push_cast [])
  refine wp_head_value ?_
  (try push_cast [])
  rw [ht]
  refine wp_items_from hm hd ml dl mm lk pos hl nd fun S n => ?_
  (try push_cast [])
  exact k S n
end
end Sy
/-! the machines' steps -/
namespace Sy
open PySem L2
open Stk (HV tag kd tp Lk Mch setS)
abbrev popF (hd : AV) (dn : Bool) (res raw be : AV) (st : String) : List (String × AV) := [("head", hd), ("done", .bl dn), ("result", res), ("raw", raw), ("below", be), ("stage", .str st)]
abbrev pushF (hd it : AV) (dn : Bool) (raw : AV) (st : String) : List (String × AV) := [("head", hd), ("item", it), ("done", .bl dn), ("raw", raw), ("stage", .str st)]
abbrev allF (hd : AV) (dn : Bool) (t : Nat) (raw : AV) (rs : Int) (st : String) : List (String × AV) := [("head", hd), ("done", .bl dn), ("taken", .ref t), ("raw", raw), ("rest", .int rs), ("stage", .str st)]
/-- a machine's things in the heap -/
inductive Ob (pg : Bool) : Mch → Nat → List (Nat × AO) → Prop where
  | pop0 {h : Bool} {a : Nat} {raw be : AV} : Ob pg (.pop0 h) a [(a, .ins "Pop" (popF (.tup (hkA pg h)) false .non raw be "read the head"))]
  | pop1 {h : Bool} {a : Nat} {raw : HV} {be : AV} : Ob pg (.pop1 h raw) a [(a, .ins "Pop" (popF (.tup (hkA pg h)) false .non (hvA raw) be "read the cell of an item"))]
  | pop2 {h : Bool} {a : Nat} {raw : HV} {b : Int} : Ob pg (.pop2 h raw b) a [(a, .ins "Pop" (popF (.tup (hkA pg h)) false .non (hvA raw) (.int b) "swap the head"))]
  | push0 {h : Bool} {a : Nat} {x : Int} {raw : AV} : Ob pg (.push0 h x) a [(a, .ins "Push" (pushF (.tup (hkA pg h)) (.int x) false raw "read the head"))]
  | push1 {h : Bool} {a : Nat} {x : Int} {raw : HV} : Ob pg (.push1 h x raw) a [(a, .ins "Push" (pushF (.tup (hkA pg h)) (.int x) false (hvA raw) "write the cell of the item"))]
  | push2 {h : Bool} {a : Nat} {x : Int} {raw : HV} : Ob pg (.push2 h x raw) a [(a, .ins "Push" (pushF (.tup (hkA pg h)) (.int x) false (hvA raw) "swap the head"))]
  | all0 {h : Bool} {a t : Nat} {raw : AV} : Ob pg (.all0 h) a [(a, .ins "TakeAll" (allF (.tup (hkA pg h)) false t raw 0 "read the head")), (t, .lst [])]
  | all1 {h : Bool} {a t : Nat} {raw : HV} : Ob pg (.all1 h raw) a [(a, .ins "TakeAll" (allF (.tup (hkA pg h)) false t (hvA raw) 0 "swap the head")), (t, .lst [])]
  | all2 {h : Bool} {a t : Nat} {tk r : List Int} {raw : AV} : Ob pg (.all2 h tk r) a [(a, .ins "TakeAll" (allF (.tup (hkA pg h)) false t raw (tp r) "read the cell of an item")), (t, .lst (tk.map .int))]
section
variable {M : AH} {s c m d a : Nat} {acc : Int} {kvs : List (List AK × AV)} {pg h : Bool} {w : Stk.Wd} {Q : AV × AH → Prop} {L os : List (Nat × AO)} {S : Bool → List Int} {loose : List Int} {l1 l2 : List Mch}
/-- the heap of the memory, one machine and the rest -/
abbrev Hm (M : AH) (s c m d : Nat) (acc : Int) (kvs : List (List AK × AV)) (os L : List (Nat × AO)) : Prop := Hs M s c ((m, .ins "Memory" (memF acc d)) :: (d, .dT kvs) :: (os ++ L))
theorem Hm.mem (H : Hm M s c m d acc kvs os L) : M.get m = some (.ins "Memory" (memF acc d)) := H.get (by simp)
theorem Hm.dic (H : Hm M s c m d acc kvs os L) : M.get d = some (.dT kvs) := H.get (by simp)
theorem Hm.ml (H : Hm M s c m d acc kvs os L) : m < M.next := H.lt (m, .ins "Memory" (memF acc d)) List.mem_cons_self
theorem Hm.dl (H : Hm M s c m d acc kvs os L) : d < M.next := H.lt (d, .dT kvs) (List.mem_cons_of_mem _ List.mem_cons_self)
theorem Hm.al {o : AO} {os : List (Nat × AO)} (H : Hm M s c m d acc kvs ((a, o) :: os) L) : a < M.next := H.lt (a, o) (by simp)
theorem Hm.count (H : Hm M s c m d acc kvs os L) (acc' : Int) : Hm (M.set m (.ins "Memory" (memF acc' d))) s c m d acc' kvs os L := Hs.set0 H _
theorem Hm.put (H : Hm M s c m d acc kvs os L) (kvs' : List (List AK × AV)) : Hm (M.set d (.dT kvs')) s c m d acc kvs' os L := Hs.set (L1 := [(m, .ins "Memory" (memF acc d))]) H _
theorem Hm.ob {o : AO} {os : List (Nat × AO)} (H : Hm M s c m d acc kvs ((a, o) :: os) L) (o' : AO) : Hm (M.set a o') s c m d acc kvs ((a, o') :: os) L := Hs.set (L1 := [(m, .ins "Memory" (memF acc d)), (d, .dT kvs)]) H _
theorem Hm.at1 {o : AO} {os : List (Nat × AO)} (H : Hm M s c m d acc kvs ((a, o) :: os) L) : M.get a = some o := H.get (by simp)
theorem Hm.ma {o : AO} {os : List (Nat × AO)} (H : Hm M s c m d acc kvs ((a, o) :: os) L) : a ≠ m ∧ a ≠ d ∧ d ≠ m := by
  have := (List.nodup_cons.mp (List.nodup_cons.mp H.nd).2).2
  simp only [List.map_cons, List.cons_append, List.nodup_cons, List.mem_cons, not_or] at this
  exact ⟨fun z => this.1.2.1 z.symm, fun z => this.2.1.1 z.symm, fun z => this.1.1 z.symm⟩
/-- the swap of a head -/
theorem wp_change_head {raw : HV} {b : Int} {os : List (Nat × AO)} (H : Hm M s c m d acc kvs os L) (mm : Mm pg kvs w) (hl : kvs.length < 100000)
    (k1 : w.hd h = raw → ∀ M', Hm M' s c m d (acc + 1) (putM kvs (hk pg h) (hvA (some (b, tag raw + 1)))) os L → Q (.bl true, M'))
    (k2 : w.hd h ≠ raw → ∀ M', Hm M' s c m d (acc + 1) kvs os L → Q (.bl false, M')) : wpO (m_change_head [.ref m, .tup (hkA pg h), hvA raw, .int b] M) Q := by
  (unfold m_change_head; rw [w_call]; refine ⟨rfl, ?_⟩; unfold a_change_head)
  (try push_cast [])
  refine wp_head_value ?_
  (try push_cast [H.mem])
  refine wp_swap H.mem H.dic hl (hk_of (pg := pg) (h := h)) (by rw [mm.h]; exact hv_ok _) (hv_ok raw) ?_
  rw [hvD_eq]
  have H1 := H.count (acc + 1)
  by_cases e : w.hd h = raw
  · rw [decide_eq_true e, if_pos rfl]
    have H2 := H1.put (putM kvs (hk pg h) (hvA (some (b, tag raw + 1))))
    (try push_cast [])
    exact k1 e _ H2
  · rw [decide_eq_false e, if_neg Bool.false_ne_true]
    (try push_cast [])
    exact k2 e _ H1
/-- Pop, nothing read -/
theorem wp_pop0 {raw be : AV} (H : Hm M s c m d acc kvs [(a, .ins "Pop" (popF (.tup (hkA pg h)) false .non raw be "read the head"))] L) (mm : Mm pg kvs w)
    (k1 : Stk.top (w.hd h) = 0 → ∀ M', Hm M' s c m d (acc + 1) kvs [(a, .ins "Pop" (popF (.tup (hkA pg h)) true .non (hvA (w.hd h)) be "read the cell of an item"))] L → Q (.non, M'))
    (k2 : Stk.top (w.hd h) ≠ 0 → ∀ M', Hm M' s c m d (acc + 1) kvs [(a, .ins "Pop" (popF (.tup (hkA pg h)) false .non (hvA (w.hd h)) be "read the cell of an item"))] L → Q (.non, M')) : wpO (m_Pop_step [.ref a, .ref m] M) Q := by
  (unfold m_Pop_step; rw [w_call]; refine ⟨rfl, ?_⟩; unfold a_Pop_step)
  (try push_cast [H.at1, str_eq])
  (unfold m_Pop_read_head; rw [w_call]; refine ⟨rfl, ?_⟩; unfold a_Pop_read_head)
  (try push_cast [H.at1, H.mem])
  refine wp_read H.mem H.dic hk_of ?_
  rw [mm.h]
  have H1 := H.count (acc + 1)
  generalize M.set m (.ins "Memory" (memF (acc + 1) d)) = M1 at H1 ⊢
  (try push_cast [H1.at1, ct_raw_Pop])
  refine wp_head_value ?_
  (try push_cast [ct_done_Pop, ct_stage_Pop])
  by_cases z : Stk.top (w.hd h) = 0
  · rw [decide_eq_true z]
    exact k1 z _ (((H1.ob _).ob _).ob _)
  · rw [decide_eq_false z]
    exact k2 z _ (((H1.ob _).ob _).ob _)
theorem wp_topmost {dn : Bool} {res be : AV} {st : String} {raw : HV} (ha : M.get a = some (.ins "Pop" (popF (.tup (hkA pg h)) dn res (hvA raw) be st))) (k : Q (.int (Stk.top raw - 1), M)) : wpO (m_Pop_topmost [.ref a] M) Q := by
  (unfold m_Pop_topmost; rw [w_call]; refine ⟨rfl, ?_⟩; unfold a_Pop_topmost)
  (try push_cast [ha])
  refine wp_head_value ?_
  (try push_cast [])
  exact k
/-- Pop, the head read -/
theorem wp_pop1 {raw : HV} {be : AV} (H : Hm M s c m d acc kvs [(a, .ins "Pop" (popF (.tup (hkA pg h)) false .non (hvA raw) be "read the cell of an item"))] L) (mm : Mm pg kvs w)
    (k : ∀ M', Hm M' s c m d (acc + 1) kvs [(a, .ins "Pop" (popF (.tup (hkA pg h)) false .non (hvA raw) (.int (w.nx (kd pg h) (Stk.top raw - 1))) "swap the head"))] L → Q (.non, M')) : wpO (m_Pop_step [.ref a, .ref m] M) Q := by
  (unfold m_Pop_step; rw [w_call]; refine ⟨rfl, ?_⟩; unfold a_Pop_step)
  (try push_cast [H.at1, H.mem, str_eq])
  refine wp_topmost H.at1 ?_
  (try push_cast [])
  refine wp_next_cell ?_
  (try push_cast [])
  refine wp_read H.mem H.dic nk_of ?_
  rw [mm.n]
  have H1 := H.count (acc + 1)
  generalize M.set m (.ins "Memory" (memF (acc + 1) d)) = M1 at H1 ⊢
  (try push_cast [H1.at1, ct_below_Pop, ct_stage_Pop])
  exact k _ ((H1.ob _).ob _)
/-- Pop, the swap -/
theorem wp_pop2 {raw : HV} {b : Int} (H : Hm M s c m d acc kvs [(a, .ins "Pop" (popF (.tup (hkA pg h)) false .non (hvA raw) (.int b) "swap the head"))] L) (mm : Mm pg kvs w) (hl : kvs.length < 100000)
    (k1 : w.hd h = raw → ∀ M', Hm M' s c m d (acc + 1) (putM kvs (hk pg h) (hvA (some (b, tag raw + 1)))) [(a, .ins "Pop" (popF (.tup (hkA pg h)) true (.int (Stk.top raw - 1)) (hvA raw) (.int b) "swap the head"))] L → Q (.non, M'))
    (k2 : w.hd h ≠ raw → ∀ M', Hm M' s c m d (acc + 1) kvs [(a, .ins "Pop" (popF (.tup (hkA pg h)) false .non (hvA raw) (.int b) "read the head"))] L → Q (.non, M')) : wpO (m_Pop_step [.ref a, .ref m] M) Q := by
  (unfold m_Pop_step; rw [w_call]; refine ⟨rfl, ?_⟩; unfold a_Pop_step)
  (try push_cast [H.at1, H.mem, str_eq])
  (unfold m_Pop_swap_head; rw [w_call]; refine ⟨rfl, ?_⟩; unfold a_Pop_swap_head)
  (try push_cast [H.at1])
  refine wp_change_head H mm hl (fun e M1 H1 => ?_) (fun e M1 H1 => ?_)
  · (try push_cast [H1.at1])
    refine wp_topmost H1.at1 ?_
    (try push_cast [H1.at1, ct_result_Pop, ct_done_Pop])
    exact k1 e _ ((H1.ob _).ob _)
  · (try push_cast [H1.at1, ct_stage_Pop])
    exact k2 e _ (H1.ob _)
/-! Push -/
theorem wp_push0 {x : Int} {raw : AV} (H : Hm M s c m d acc kvs [(a, .ins "Push" (pushF (.tup (hkA pg h)) (.int x) false raw "read the head"))] L) (mm : Mm pg kvs w)
    (k : ∀ M', Hm M' s c m d (acc + 1) kvs [(a, .ins "Push" (pushF (.tup (hkA pg h)) (.int x) false (hvA (w.hd h)) "write the cell of the item"))] L → Q (.non, M')) : wpO (m_Push_step [.ref a, .ref m] M) Q := by
  (unfold m_Push_step; rw [w_call]; refine ⟨rfl, ?_⟩; unfold a_Push_step)
  (try push_cast [H.at1, H.mem, str_eq])
  refine wp_read H.mem H.dic hk_of ?_
  rw [mm.h]
  have H1 := H.count (acc + 1)
  generalize M.set m (.ins "Memory" (memF (acc + 1) d)) = M1 at H1 ⊢
  (try push_cast [H1.at1, ct_raw_Push, ct_stage_Push])
  exact k _ ((H1.ob _).ob _)
theorem wp_push1 {x : Int} {raw : HV} (H : Hm M s c m d acc kvs [(a, .ins "Push" (pushF (.tup (hkA pg h)) (.int x) false (hvA raw) "write the cell of the item"))] L) (mm : Mm pg kvs w) (hl : kvs.length < 100000)
    (k : ∀ M', Hm M' s c m d (acc + 1) (putM kvs (nk (kd pg h) x) (.int (Stk.top raw))) [(a, .ins "Push" (pushF (.tup (hkA pg h)) (.int x) false (hvA raw) "swap the head"))] L → Q (.non, M')) : wpO (m_Push_step [.ref a, .ref m] M) Q := by
  (unfold m_Push_step; rw [w_call]; refine ⟨rfl, ?_⟩; unfold a_Push_step)
  (try push_cast [H.at1, H.mem, str_eq])
  (unfold m_Push_write_cell; rw [w_call]; refine ⟨rfl, ?_⟩; unfold a_Push_write_cell)
  (try push_cast [H.at1, H.mem])
  refine wp_head_value ?_
  (try push_cast [H.at1, H.mem])
  refine wp_next_cell ?_
  (try push_cast [H.at1, H.mem])
  refine wp_write H.mem H.dic hl nk_of ?_
  have H1 := (H.count (acc + 1)).put (putM kvs (nk (kd pg h) x) (.int (Stk.top raw)))
  generalize (M.set m (.ins "Memory" (memF (acc + 1) d))).set d (.dT (putM kvs (nk (kd pg h) x) (.int (Stk.top raw)))) = M1 at H1 ⊢
  (try push_cast [H1.at1, ct_stage_Push])
  exact k _ (H1.ob _)
theorem wp_push2 {x : Int} {raw : HV} (H : Hm M s c m d acc kvs [(a, .ins "Push" (pushF (.tup (hkA pg h)) (.int x) false (hvA raw) "swap the head"))] L) (mm : Mm pg kvs w) (hl : kvs.length < 100000)
    (k1 : w.hd h = raw → ∀ M', Hm M' s c m d (acc + 1) (putM kvs (hk pg h) (hvA (some (x + 1, tag raw + 1)))) [(a, .ins "Push" (pushF (.tup (hkA pg h)) (.int x) true (hvA raw) "read the head"))] L → Q (.non, M'))
    (k2 : w.hd h ≠ raw → ∀ M', Hm M' s c m d (acc + 1) kvs [(a, .ins "Push" (pushF (.tup (hkA pg h)) (.int x) false (hvA raw) "read the head"))] L → Q (.non, M')) : wpO (m_Push_step [.ref a, .ref m] M) Q := by
  (unfold m_Push_step; rw [w_call]; refine ⟨rfl, ?_⟩; unfold a_Push_step)
  (try push_cast [H.at1, H.mem, str_eq])
  (unfold m_Push_swap_head; rw [w_call]; refine ⟨rfl, ?_⟩; unfold a_Push_swap_head)
  (try push_cast [H.at1])
  refine wp_change_head H mm hl (fun e M1 H1 => ?_) (fun e M1 H1 => ?_)
  · (try push_cast [H1.at1, ct_done_Push, ct_stage_Push])
    exact k1 e _ ((H1.ob _).ob _)
  · (try push_cast [H1.at1, ct_done_Push, ct_stage_Push])
    exact k2 e _ ((H1.ob _).ob _)
/-! TakeAll -/
theorem wp_all0 {t : Nat} {raw : AV} (H : Hm M s c m d acc kvs [(a, .ins "TakeAll" (allF (.tup (hkA pg h)) false t raw 0 "read the head")), (t, .lst [])] L) (mm : Mm pg kvs w)
    (k1 : Stk.top (w.hd h) = 0 → ∀ M', Hm M' s c m d (acc + 1) kvs [(a, .ins "TakeAll" (allF (.tup (hkA pg h)) true t (hvA (w.hd h)) 0 "swap the head")), (t, .lst [])] L → Q (.non, M'))
    (k2 : Stk.top (w.hd h) ≠ 0 → ∀ M', Hm M' s c m d (acc + 1) kvs [(a, .ins "TakeAll" (allF (.tup (hkA pg h)) false t (hvA (w.hd h)) 0 "swap the head")), (t, .lst [])] L → Q (.non, M')) : wpO (m_TakeAll_step [.ref a, .ref m] M) Q := by
  (unfold m_TakeAll_step; rw [w_call]; refine ⟨rfl, ?_⟩; unfold a_TakeAll_step)
  (try push_cast [H.at1, H.mem, str_eq])
  (unfold m_TakeAll_read_head; rw [w_call]; refine ⟨rfl, ?_⟩; unfold a_TakeAll_read_head)
  (try push_cast [H.at1, H.mem])
  refine wp_read H.mem H.dic hk_of ?_
  rw [mm.h]
  have H1 := H.count (acc + 1)
  generalize M.set m (.ins "Memory" (memF (acc + 1) d)) = M1 at H1 ⊢
  (try push_cast [H1.at1, ct_raw_TakeAll])
  refine wp_head_value ?_
  (try push_cast [ct_done_TakeAll, ct_stage_TakeAll])
  by_cases z : Stk.top (w.hd h) = 0
  · rw [decide_eq_true z]
    exact k1 z _ (((H1.ob _).ob _).ob _)
  · rw [decide_eq_false z]
    exact k2 z _ (((H1.ob _).ob _).ob _)
theorem wp_all1 {t : Nat} {raw : HV} (H : Hm M s c m d acc kvs [(a, .ins "TakeAll" (allF (.tup (hkA pg h)) false t (hvA raw) 0 "swap the head")), (t, .lst [])] L) (mm : Mm pg kvs w) (hl : kvs.length < 100000)
    (k1 : w.hd h = raw → ∀ M', Hm M' s c m d (acc + 1) (putM kvs (hk pg h) (hvA (some (0, tag raw + 1)))) [(a, .ins "TakeAll" (allF (.tup (hkA pg h)) false t (hvA raw) (Stk.top raw) "read the cell of an item")), (t, .lst [])] L → Q (.non, M'))
    (k2 : w.hd h ≠ raw → ∀ M', Hm M' s c m d (acc + 1) kvs [(a, .ins "TakeAll" (allF (.tup (hkA pg h)) false t (hvA raw) 0 "read the head")), (t, .lst [])] L → Q (.non, M')) : wpO (m_TakeAll_step [.ref a, .ref m] M) Q := by
  (unfold m_TakeAll_step; rw [w_call]; refine ⟨rfl, ?_⟩; unfold a_TakeAll_step)
  (try push_cast [H.at1, H.mem, str_eq])
  (unfold m_TakeAll_swap_head; rw [w_call]; refine ⟨rfl, ?_⟩; unfold a_TakeAll_swap_head)
  (try push_cast [H.at1])
  refine wp_change_head H mm hl (fun e M1 H1 => ?_) (fun e M1 H1 => ?_)
  · (try push_cast [H1.at1])
    refine wp_head_value ?_
    (try push_cast [H1.at1, ct_rest_TakeAll, ct_stage_TakeAll])
    exact k1 e _ ((H1.ob _).ob _)
  · (try push_cast [H1.at1, ct_stage_TakeAll])
    exact k2 e _ (H1.ob _)
theorem Hm.ob2 {o o2 : AO} {b : Nat} {os : List (Nat × AO)} (H : Hm M s c m d acc kvs ((a, o) :: (b, o2) :: os) L) (o' : AO) : Hm (M.set b o') s c m d acc kvs ((a, o) :: (b, o') :: os) L := Hs.set (L1 := [(m, .ins "Memory" (memF acc d)), (d, .dT kvs), (a, o)]) H _
theorem Hm.at2 {o o2 : AO} {b : Nat} {os : List (Nat × AO)} (H : Hm M s c m d acc kvs ((a, o) :: (b, o2) :: os) L) : M.get b = some o2 := H.get (by simp)
theorem Hm.ab {o o2 : AO} {b : Nat} {os : List (Nat × AO)} (H : Hm M s c m d acc kvs ((a, o) :: (b, o2) :: os) L) : a ≠ b := by
  have := (List.nodup_cons.mp (List.nodup_cons.mp H.nd).2).2
  simp only [List.map_cons, List.cons_append, List.nodup_cons, List.mem_cons, not_or] at this
  exact this.2.2.1.1
theorem wp_all2 {t : Nat} {raw : AV} {tk r : List Int} {x : Int} (H : Hm M s c m d acc kvs [(a, .ins "TakeAll" (allF (.tup (hkA pg h)) false t raw (x + 1) "read the cell of an item")), (t, .lst (tk.map .int))] L) (mm : Mm pg kvs w) (lk : w.nx (kd pg h) x = tp r) (hl : tk.length < 1000) (pos : ∀ x ∈ r, 0 ≤ x)
    (k1 : r = [] → ∀ M', Hm M' s c m d (acc + 1) kvs [(a, .ins "TakeAll" (allF (.tup (hkA pg h)) true t raw 0 "read the cell of an item")), (t, .lst ((tk ++ [x]).map .int))] L → Q (.non, M'))
    (k2 : r ≠ [] → ∀ M', Hm M' s c m d (acc + 1) kvs [(a, .ins "TakeAll" (allF (.tup (hkA pg h)) false t raw (tp r) "read the cell of an item")), (t, .lst ((tk ++ [x]).map .int))] L → Q (.non, M')) : wpO (m_TakeAll_step [.ref a, .ref m] M) Q := by
  have ex : x + 1 - 1 = x := by omega
  (unfold m_TakeAll_step; rw [w_call]; refine ⟨rfl, ?_⟩; unfold a_TakeAll_step)
  (try push_cast [H.at1, H.mem, str_eq])
  (unfold m_TakeAll_read_cell; rw [w_call]; refine ⟨rfl, ?_⟩; unfold a_TakeAll_read_cell)
  (try push_cast [H.at1, H.mem, ex])
  refine wp_next_cell ?_
  (try push_cast [H.at1, H.mem])
  refine wp_read H.mem H.dic nk_of ?_
  rw [mm.n, lk]
  have H1 := H.count (acc + 1)
  generalize M.set m (.ins "Memory" (memF (acc + 1) d)) = M1 at H1 ⊢
  (try push_cast [H1.at1, H1.at2, ct_rest_TakeAll, sel_ne H.ab.symm])
  have H2 := H1.ob (.ins "TakeAll" (allF (.tup (hkA pg h)) false t raw (tp r) "read the cell of an item"))
  generalize M1.set a (.ins "TakeAll" (allF (.tup (hkA pg h)) false t raw (tp r) "read the cell of an item")) = M2 at H2 ⊢
  have H3 := H2.ob2 (.lst ((tk ++ [x]).map .int))
  have ea : mAppend (.ref t) [.int x] M2 = some (.non, M2.set t (.lst ((tk ++ [x]).map .int))) := by
    rw [mAppend_l H2.at2 (by rw [List.length_map]; omega), List.map_append]
    rfl
  (try push_cast [H2.at1, H2.at2, ea, sel_ne H.ab])
  generalize M2.set t (.lst ((tk ++ [x]).map .int)) = M3 at H3 ⊢
  (try push_cast [H3.at1])
  cases r with
  | nil =>
    have t0 : tp [] = 0 := rfl
    (try push_cast [t0, H3.at1, ct_done_TakeAll])
    exact k1 rfl _ (H3.ob _)
  | cons y r =>
    have t1 : tp (y :: r) = y + 1 := rfl
    have := pos y List.mem_cons_self
    have ne : decide (tp (y :: r) = 0) = false := decide_eq_false (by rw [t1]; omega)
    (try push_cast [ne, H3.at1, ct_done_TakeAll])
    exact k2 (by simp) _ (H3.ob _)
theorem wp_holding {t : Nat} {raw : AV} {dn : Bool} {st : String} {tk r : List Int} (H : Hm M s c m d acc kvs [(a, .ins "TakeAll" (allF (.tup (hkA pg h)) dn t raw (tp r) st)), (t, .lst (tk.map .int))] L) (mm : Mm pg kvs w) (lk : Lk (w.nx (kd pg h)) r) (hl : tk.length + r.length < 1000) (pos : ∀ x ∈ r, 0 ≤ x) (nd : r.Nodup)
    (k : ∀ n M', Hs M' s c ((n, .lst ((tk ++ r).map .int)) :: (m, .ins "Memory" (memF acc d)) :: (d, .dT kvs) :: ([(a, .ins "TakeAll" (allF (.tup (hkA pg h)) dn t raw (tp r) st)), (t, .lst (tk.map .int))] ++ L)) → Q (.ref n, M')) : wpO (m_TakeAll_holding [.ref a, .ref m] M) Q := by
  (unfold m_TakeAll_holding; rw [w_call]; refine ⟨rfl, ?_⟩; unfold a_TakeAll_holding)
  have al := H.al
  have ml := H.ml
  have dl := H.dl
  have tl : t < M.next := H.lt (t, .lst (tk.map .int)) (by simp)
  (try push_cast [H.at1, H.at2])
  refine wp_items_from H.mem H.dic ml dl mm lk pos (by omega) nd fun S0 n0 => ?_
  have el : oAdd (.ref t) (.ref M.next) ((M.new (.lst (r.map .int))).new (.st S0 n0)) = some (.ref (M.next + 1 + 1), ((M.new (.lst (r.map .int))).new (.st S0 n0)).new (.lst ((tk ++ r).map .int))) := by
    rw [oAdd_l (xs := tk.map .int) (ys := r.map .int) (by rw [get_new, sel_lt (by rw [next_new]; omega), get_new, sel_lt tl]; exact H.at2) (by rw [get_new, sel_lt (by rw [next_new]; omega), get_new, sel_self]) (by rw [List.length_map, List.length_map]; omega), ← List.map_append]
    rfl
  (try push_cast [el])
  exact k _ _ (((((Hs.new H (.lst (r.map .int))).drop).new (.st S0 n0)).drop).new (.lst ((tk ++ r).map .int)))
end
end Sy
/-! the law's own words -/
namespace Sy
open PySem L2
open Stk (HV tag kd tp Lk Mch setS)
def wordM : Mch → String
  | .pop0 _ => "pop" | .pop1 _ _ => "pop" | .pop2 _ _ _ => "pop"
  | .push0 _ _ => "push" | .push1 _ _ _ => "push" | .push2 _ _ _ => "push"
  | .all0 _ => "all" | .all1 _ _ => "all" | .all2 _ _ _ => "all"
def headM : Mch → Bool
  | .pop0 h => h | .pop1 h _ => h | .pop2 h _ _ => h
  | .push0 h _ => h | .push1 h _ _ => h | .push2 h _ _ => h
  | .all0 h => h | .all1 h _ => h | .all2 h _ _ => h
def itemM : Mch → Int
  | .push0 _ x => x | .push1 _ x _ => x | .push2 _ x _ => x
  | _ => 0
def tupM (pg : Bool) (mc : Mch) (a : Nat) : AV := .tup [.str (wordM mc), .tup (hkA pg (headM mc)), .ref a, .int (itemM mc)]
section
variable {M : AH} {s c a : Nat} {pg h : Bool} {Q : AV × AH → Prop} {L : List (Nat × AO)} {S : Bool → List Int} {loose : List Int} {w : Stk.Wd} {ms : List Mch}
theorem wp_pop_init (H : Hs M s c ((a, .ins "Pop" []) :: L)) (k : ∀ M', Hs M' s c ((a, .ins "Pop" (popF (.tup (hkA pg h)) false .non .non (.int 0) "read the head")) :: L) → M'.next = M.next → Q (.non, M')) : wpO (m_Pop_init [.ref a, .tup (hkA pg h)] M) Q := by
  have e := H.get (n := a) (o := .ins "Pop" []) List.mem_cons_self
  unfold m_Pop_init
  rw [w_call]
  refine ⟨rfl, ?_⟩
  unfold a_Pop_init
  (try push_cast [e, ct_head_Pop, ct_done_Pop, ct_result_Pop, ct_raw_Pop, ct_stage_Pop, ct_below_Pop, set_set])
  exact k _ (H.set0 _) rfl
theorem wp_push_init {x : Int} (H : Hs M s c ((a, .ins "Push" []) :: L)) (k : ∀ M', Hs M' s c ((a, .ins "Push" (pushF (.tup (hkA pg h)) (.int x) false .non "read the head")) :: L) → M'.next = M.next → Q (.non, M')) : wpO (m_Push_init [.ref a, .tup (hkA pg h), .int x] M) Q := by
  have e := H.get (n := a) (o := .ins "Push" []) List.mem_cons_self
  unfold m_Push_init
  rw [w_call]
  refine ⟨rfl, ?_⟩
  unfold a_Push_init
  (try push_cast [e, ct_head_Push, ct_done_Push, ct_item_Push, ct_raw_Push, ct_stage_Push, set_set])
  exact k _ (H.set0 _) rfl
theorem wp_all_init (H : Hs M s c ((a, .ins "TakeAll" []) :: L)) (k : ∀ M' t, Hs M' s c ((a, .ins "TakeAll" (allF (.tup (hkA pg h)) false t .non 0 "read the head")) :: (t, .lst []) :: L) → Q (.non, M')) : wpO (m_TakeAll_init [.ref a, .tup (hkA pg h)] M) Q := by
  have e := H.get (n := a) (o := .ins "TakeAll" []) List.mem_cons_self
  have al := H.lt (a, .ins "TakeAll" []) List.mem_cons_self
  unfold m_TakeAll_init
  rw [w_call]
  refine ⟨rfl, ?_⟩
  unfold a_TakeAll_init
  (try push_cast [e, ct_head_TakeAll, ct_done_TakeAll, ct_taken_TakeAll, ct_raw_TakeAll, ct_stage_TakeAll, ct_rest_TakeAll, set_set, sel_lt al])
  have H1 := H.set0 (.ins "TakeAll" [("head", .tup (hkA pg h)), ("done", .bl false)])
  have H2 := H1.new (.lst [])
  have H3 := Hs.set (L1 := [(_, .lst [])]) H2 (.ins "TakeAll" (allF (.tup (hkA pg h)) false M.next .non 0 "read the head"))
  exact k _ _ (H3.perm (List.Perm.swap _ _ _))
theorem map_erase {α β : Type} {f : α → β} : ∀ {l : List α} {i : Nat}, (l.eraseIdx i).map f = (l.map f).eraseIdx i
  | [], _ => rfl
  | _ :: _, 0 => rfl
  | a :: l, i + 1 => by rw [List.eraseIdx_cons_succ, List.map_cons, List.map_cons, List.eraseIdx_cons_succ, map_erase]
theorem wp_new {lo hl : Nat} (H : Hs M s c ((lo, .lst (loose.map .int)) :: (hl, .lst [.tup (hkA pg false), .tup (hkA pg true)]) :: L)) (I : Stk.Inv pg w S loose ms) (ll : loose.length < 1000)
    (k : ∀ M' mc a os loose', Hs M' s c (os ++ (lo, .lst (loose'.map .int)) :: (hl, .lst [.tup (hkA pg false), .tup (hkA pg true)]) :: L) → Ob pg mc a os → Stk.Inv pg w S loose' (ms ++ [mc]) → loose'.length ≤ loose.length → Q (tupM pg mc a, M')) : wpO (m_law_new [.ref s, .ref lo, .ref hl] M) Q := by
  unfold m_law_new
  rw [w_call]
  refine ⟨rfl, ?_⟩
  unfold a_law_new
  (try push_cast [])
  refine wp_take H.st (by decide) fun kind M1 a1 b1 s1 f1 g1 => ?_
  have H1 := H.drawn s1 f1 g1
  (try push_cast [])
  refine wp_take H1.st (by decide) fun r M2 a2 b2 s2 f2 g2 => ?_
  have H2 := H1.drawn s2 f2 g2
  clear H1 H
  obtain ⟨h, eh⟩ : ∃ h, atI [AV.tup (hkA pg false), .tup (hkA pg true)] r = some (.tup (hkA pg h)) := by
    obtain rfl | rfl : r = 0 ∨ r = 1 := by omega
    · exact ⟨false, atI_0⟩
    · exact ⟨true, atI_1⟩
  have eL := H2.get (n := lo) (o := .lst (loose.map .int)) List.mem_cons_self
  have eH := H2.get (n := hl) (o := .lst [.tup (hkA pg false), .tup (hkA pg true)]) (by simp)
  have eln := fLen_l eL
  (try push_cast [eH, eh])
  -- a machine without an item
  have rest : wpO
      (sSeq (sIf (qBl (eBin oEq (eVar 3) (eC (.int 4)))) (sRet (eArgs fTup (gCons' (eC (.str "all")) (gCons' (eVar 4) (gCons' (eMake "TakeAll" m_TakeAll_init (gCons' (eVar 4) gNil')) (gCons' (eC (.int 0)) gNil')))))) sNext)
        (sRet (eArgs fTup (gCons' (eC (.str "pop")) (gCons' (eVar 4) (gCons' (eMake "Pop" m_Pop_init (gCons' (eVar 4) gNil')) (gCons' (eC (.int 0)) gNil'))))))
        [some (.ref s), some (.ref lo), some (.ref hl), some (.int kind), some (.tup (hkA pg h)), none] M2) (endC Q) := by
    (try push_cast [])
    refine br_dec (fun _ => ?_) (fun _ => ?_)
    · (try push_cast [])
      refine wp_all_init (H2.new _) fun M' t H' => ?_
      (try push_cast [])
      exact k M' (.all0 h) _ _ loose H' .all0 (I.add rfl trivial) (Nat.le_refl _)
    · (try push_cast [])
      refine wp_pop_init (H2.new _) fun M' H' _ => ?_
      (try push_cast [])
      exact k M' (.pop0 h) _ _ loose H' .pop0 (I.add rfl trivial) (Nat.le_refl _)
  refine br_dec (fun _ => ?_) (fun _ => ?_)
  · (try push_cast [eln])
    refine br_dec (fun z => ?_) (fun z => ?_)
    · rw [List.length_map] at z
      have z : 0 < (loose.length : Int) := z
      (try push_cast [eL, eln])
      refine wp_take H2.st (by rw [List.length_map]; omega) fun j M3 a3 b3 s3 f3 g3 => ?_
      have H3 := H2.drawn s3 f3 g3
      rw [List.length_map] at b3
      obtain ⟨n, rfl⟩ : ∃ n : Nat, j = (n : Int) := ⟨j.toNat, (Int.toNat_of_nonneg a3).symm⟩
      have hn : n < loose.length := by omega
      have ej : loose[n]? = some loose[n] := List.getElem?_eq_getElem hn
      have ep := mPop1_l (H3.get (n := lo) (o := .lst (loose.map .int)) List.mem_cons_self) (j := n) (y := .int loose[n]) (by rw [List.getElem?_map, ej]; rfl) (by rw [List.length_map]; omega)
      (try push_cast [ep])
      have H4 := H3.set0 (.lst ((loose.eraseIdx n).map .int))
      have e4 : (loose.map AV.int).eraseIdx n = (loose.eraseIdx n).map AV.int := by rw [map_erase]
      rw [e4]
      refine wp_push_init (H4.new _) fun M' H' _ => ?_
      (try push_cast [])
      exact k M' (.push0 h loose[n]) _ _ (loose.eraseIdx n) H' .push0 (I.addPush ej) (by rw [List.length_eraseIdx]; split <;> omega)
    · (try push_cast [])
      (try push_cast [] at rest)
      exact rest
  · (try push_cast [])
    (try push_cast [] at rest)
    exact rest
end
end Sy
/-! what the law does behind a step -/
namespace Sy
open PySem L2
open Stk (HV tag kd tp Lk Mch setS)
def stkD (pg : Bool) (rr : Bool → Nat) : List (List AK × AV) := [(hk pg false, .ref (rr false)), (hk pg true, .ref (rr true))]
def setR (rr : Bool → Nat) (h : Bool) (n : Nat) : Bool → Nat := fun k => if k = h then n else rr k
theorem stkD_look {pg h : Bool} {rr : Bool → Nat} : look (stkD pg rr) (hk pg h) = some (.ref (rr h)) := by
  have ne : hk pg false ≠ hk pg true := fun e => by cases hk_inj.mp e
  unfold stkD
  cases h
  · unfold look; rw [if_pos rfl]
  · unfold look; rw [if_neg ne]; unfold look; rw [if_pos rfl]
theorem stkD_put {pg h : Bool} {rr : Bool → Nat} {n : Nat} : putM (stkD pg rr) (hk pg h) (.ref n) = stkD pg (setR rr h n) := by
  have ne : hk pg false ≠ hk pg true := fun e => by cases hk_inj.mp e
  have ne' : hk pg true ≠ hk pg false := fun e => ne e.symm
  cases h <;> simp [putM, setR, ne, ne', stkD]
theorem stkD_len {pg : Bool} {rr : Bool → Nat} : (stkD pg rr).length = 2 := rfl
abbrev LO (pg : Bool) (sd lo : Nat) (rr : Bool → Nat) (S : Bool → List Int) (loose : List Int) (L : List (Nat × AO)) : List (Nat × AO) :=
  (sd, .dT (stkD pg rr)) :: (rr false, .lst ((S false).map .int)) :: (rr true, .lst ((S true).map .int)) :: (lo, .lst (loose.map .int)) :: L
section
variable {M : AH} {s c m d a sd lo : Nat} {acc : Int} {kvs : List (List AK × AV)} {pg h : Bool} {w : Stk.Wd} {Q : AV × AH → Prop} {A L os : List (Nat × AO)} {S : Bool → List Int} {loose : List Int} {rr : Bool → Nat}
theorem LO.gsd (H : Hs M s c (A ++ LO pg sd lo rr S loose L)) : M.get sd = some (.dT (stkD pg rr)) := H.get (by simp)
theorem LO.row (H : Hs M s c (A ++ LO pg sd lo rr S loose L)) (h : Bool) : M.get (rr h) = some (.lst ((S h).map .int)) := by cases h <;> exact H.get (by simp)
theorem LO.rowlt (H : Hs M s c (A ++ LO pg sd lo rr S loose L)) (h : Bool) : rr h < M.next := by
  cases h
  · exact H.lt (rr false, .lst ((S false).map .int)) (by simp)
  · exact H.lt (rr true, .lst ((S true).map .int)) (by simp)
theorem LO.sdlt (H : Hs M s c (A ++ LO pg sd lo rr S loose L)) : sd < M.next := H.lt (sd, .dT (stkD pg rr)) (by simp)
theorem LO.glo (H : Hs M s c (A ++ LO pg sd lo rr S loose L)) : M.get lo = some (.lst (loose.map .int)) := H.get (by simp)
theorem LO.losd (H : Hs M s c (A ++ LO pg sd lo rr S loose L)) : lo ≠ sd := fun e => by have := LO.glo H; rw [e, LO.gsd H] at this; cases this
theorem LO.asd {p : Nat × AO} (hp : p ∈ A) (H : Hs M s c (A ++ LO pg sd lo rr S loose L)) : p.1 ≠ sd := Hs.neq (q := (sd, .dT (stkD pg rr))) H hp List.mem_cons_self
theorem LO.lolt (H : Hs M s c (A ++ LO pg sd lo rr S loose L)) : lo < M.next := H.lt (lo, .lst (loose.map .int)) (by simp)
theorem LO.dropB {b : Nat × AO} : (LO pg sd lo rr S loose L).Sublist (LO pg sd lo rr S loose (b :: L)) := List.Sublist.cons₂ _ (List.Sublist.cons₂ _ (List.Sublist.cons₂ _ (List.Sublist.cons₂ _ (List.sublist_cons_self _ _))))
/-- stacks[head] = a new list -/
theorem LO.store {n : Nat} {xs : List Int} (H : Hs M s c ((n, .lst (xs.map .int)) :: (A ++ LO pg sd lo rr S loose L))) (h : Bool) : Hs (M.set sd (.dT (stkD pg (setR rr h n)))) s c (A ++ LO pg sd lo (setR rr h n) (setS S h xs) loose L) := by
  have mid : ∀ (X : Nat × AO) (C : List (Nat × AO)) (D : List (Nat × AO)), (D ++ X :: C).Perm (X :: (D ++ C)) := fun X C D => List.perm_middle
  cases h with
  | false =>
    have H1 : Hs M s c ((n, .lst (xs.map .int)) :: (A ++ (sd, .dT (stkD pg rr)) :: (rr true, .lst ((S true).map .int)) :: (lo, .lst (loose.map .int)) :: L)) :=
      H.sub (List.Sublist.cons₂ _ (List.Sublist.append_left (List.Sublist.cons₂ _ (List.sublist_cons_self _ _)) _))
    have H2 : Hs M s c (A ++ (sd, .dT (stkD pg rr)) :: (n, .lst (xs.map .int)) :: (rr true, .lst ((S true).map .int)) :: (lo, .lst (loose.map .int)) :: L) := by
      refine H1.perm ?_
      have := mid (n, .lst (xs.map .int)) ((rr true, .lst ((S true).map .int)) :: (lo, .lst (loose.map .int)) :: L) (A ++ [(sd, .dT (stkD pg rr))])
      simpa using this
    exact H2.set _
  | true =>
    have H1 : Hs M s c ((n, .lst (xs.map .int)) :: (A ++ (sd, .dT (stkD pg rr)) :: (rr false, .lst ((S false).map .int)) :: (lo, .lst (loose.map .int)) :: L)) :=
      H.sub (List.Sublist.cons₂ _ (List.Sublist.append_left (List.Sublist.cons₂ _ (List.Sublist.cons₂ _ (List.sublist_cons_self _ _))) _))
    have H2 : Hs M s c (A ++ (sd, .dT (stkD pg rr)) :: (rr false, .lst ((S false).map .int)) :: (n, .lst (xs.map .int)) :: (lo, .lst (loose.map .int)) :: L) := by
      refine H1.perm ?_
      have := mid (n, .lst (xs.map .int)) ((lo, .lst (loose.map .int)) :: L) (A ++ [(sd, .dT (stkD pg rr)), (rr false, .lst ((S false).map .int))])
      simpa using this
    exact H2.set _
theorem LO.setLo (H : Hs M s c (A ++ LO pg sd lo rr S loose L)) (ys : List Int) : Hs (M.set lo (.lst (ys.map .int))) s c (A ++ LO pg sd lo rr S ys L) := by
  have := Hs.set (L1 := A ++ [(sd, .dT (stkD pg rr)), (rr false, .lst ((S false).map .int)), (rr true, .lst ((S true).map .int))]) (n := lo) (o := .lst (loose.map .int)) (L2 := L) (H.perm (by simp)) (.lst (ys.map .int))
  exact this.perm (by simp)
theorem keyT_h {pg h : Bool} : keyT (.tup (hkA pg h)) = some (hk pg h) := hk_of
/-- a machine that isn't done: nothing -/
theorem wp_after_idle {wd cn : String} {fs : List (String × AV)} {bf : Nat} {it : Int} (hw : wd = "pop" ∨ wd = "push") (ho : M.get a = some (.ins cn fs)) (hd : look fs "done" = some (.bl false)) (H : Hs M s c (A ++ LO pg sd lo rr S loose L))
    (k : Q (.bl true, M)) : wpO (m_law_after [.tup [.str wd, .tup (hkA pg h), .ref a, .int it], .ref bf, .ref sd, .ref lo, .ref m] M) Q := by
  unfold m_law_after
  rw [w_call]
  refine ⟨rfl, ?_⟩
  unfold a_law_after
  rcases hw with rfl | rfl
  · (try push_cast [LO.gsd H, hk_of, stkD_look, str_eq, ho, hd])
    exact k
  · (try push_cast [LO.gsd H, hk_of, stkD_look, str_eq, ho, hd])
    exact k
/-- a push is done -/
theorem wp_after_pushed {cn : String} {fs : List (String × AV)} {bf : Nat} {it : Int} (ho : M.get a = some (.ins cn fs)) (hd : look fs "done" = some (.bl true)) (H : Hs M s c (A ++ LO pg sd lo rr S loose L)) (hl : (S h).length < 1000)
    (k : ∀ M' n, Hs M' s c (A ++ LO pg sd lo (setR rr h n) (setS S h (it :: S h)) loose L) → Q (.bl true, M')) : wpO (m_law_after [.tup [.str "push", .tup (hkA pg h), .ref a, .int it], .ref bf, .ref sd, .ref lo, .ref m] M) Q := by
  unfold m_law_after
  rw [w_call]
  refine ⟨rfl, ?_⟩
  unfold a_law_after
  (try push_cast [LO.gsd H, hk_of, stkD_look, str_eq, ho, hd])
  have H1 := H.new (.lst [.int it])
  have e1 := H1.get (n := M.next) (o := .lst [.int it]) List.mem_cons_self
  have e2 := LO.row (A := (M.next, .lst [.int it]) :: A) H1 h
  have e3 := oAdd_l e1 e2 (by rw [List.length_map, List.length_singleton]; omega)
  have eA : [AV.int it] ++ (S h).map AV.int = (it :: S h).map AV.int := rfl
  rw [eA] at e3
  have H2 := H1.new (.lst ((it :: S h).map .int))
  (try push_cast [e3, sel_lt (Nat.lt_succ_of_lt (LO.sdlt H)), sel_lt (LO.sdlt H), LO.gsd H, hk_of, stkD_len, stkD_put, str_eq])
  have H3 := LO.store (A := A) (H2.sub (List.Sublist.cons₂ _ (List.sublist_cons_self _ _))) h
  exact k _ _ H3
/-- a pop without a result -/
theorem wp_after_none {cn : String} {fs : List (String × AV)} {bf : Nat} {it : Int} (hA : (a, AO.ins cn fs) ∈ A) (hd : look fs "done" = some (.bl true)) (hr : look fs "result" = some .non) (H : Hs M s c (A ++ LO pg sd lo rr S loose L)) (hS : S h = [])
    (k : ∀ M', Hs M' s c (A ++ LO pg sd lo rr S loose L) → Q (.bl true, M')) : wpO (m_law_after [.tup [.str "pop", .tup (hkA pg h), .ref a, .int it], .ref bf, .ref sd, .ref lo, .ref m] M) Q := by
  have ho := H.get (List.mem_append_left _ hA)
  unfold m_law_after
  rw [w_call]
  refine ⟨rfl, ?_⟩
  unfold a_law_after
  have er := LO.row H h
  rw [hS] at er
  (try push_cast [LO.gsd H, hk_of, stkD_look, str_eq, ho, hd, hr, er, sel_lt (LO.rowlt H h), eqv_00])
  exact k _ (H.new _).drop
/-- a pop is done -/
theorem wp_after_popped {cn : String} {fs : List (String × AV)} {bf : Nat} {it x : Int} {r : List Int} (hA : (a, AO.ins cn fs) ∈ A) (hd : look fs "done" = some (.bl true)) (hr : look fs "result" = some (.int x)) (H : Hs M s c (A ++ LO pg sd lo rr S loose L)) (hS : S h = x :: r) (hl : loose.length < 1000)
    (k : ∀ M' n, Hs M' s c (A ++ LO pg sd lo (setR rr h n) (setS S h r) (loose ++ [x]) L) → Q (.bl true, M')) : wpO (m_law_after [.tup [.str "pop", .tup (hkA pg h), .ref a, .int it], .ref bf, .ref sd, .ref lo, .ref m] M) Q := by
  have ho := H.get (List.mem_append_left _ hA)
  have al := H.lt _ (List.mem_append_left _ hA)
  unfold m_law_after
  rw [w_call]
  refine ⟨rfl, ?_⟩
  unfold a_law_after
  have er := LO.row H h
  rw [hS, List.map_cons] at er
  have ne : ((x :: r) = []) = False := by simp
  have ex := eqv_l0 (ns := x :: r)
  rw [List.map_cons] at ex
  (try push_cast [LO.gsd H, hk_of, stkD_look, str_eq, ho, hd, hr, er, sel_lt (LO.rowlt H h), datI, ex, ne, sel_lt al, reduceCtorEq, cut_1, sel_lt (Nat.lt_succ_of_lt (LO.sdlt H)), sel_lt (LO.sdlt H), stkD_len, stkD_put, sel_lt (LO.lolt H), sel_lt (Nat.lt_succ_of_lt (LO.lolt H)), sel_ne (LO.losd H), LO.glo H, sel_ne (LO.asd hA H), sel_lt (Nat.lt_succ_of_lt al)])
  have H1 := (H.new (.lst [])).new (.lst (r.map .int))
  have H3 := LO.store (A := A) (H1.sub (List.Sublist.cons₂ _ (List.sublist_cons_self _ _))) h
  rw [next_new] at H3
  generalize ((M.new (.lst [])).new (.lst (r.map .int))).set sd (.dT (stkD pg (setR rr h (M.next + 1)))) = M3 at H3 ⊢
  have e4 := mAppend_l (y := .int x) (LO.glo H3) (by rw [List.length_map]; omega)
  have eA : loose.map AV.int ++ [.int x] = (loose ++ [x]).map AV.int := by rw [List.map_append]; rfl
  rw [eA] at e4
  (try push_cast [LO.glo H3, H3.get (List.mem_append_left _ hA), hr, e4, str_eq])
  exact k _ _ (LO.setLo H3 _)
abbrev AA4 (pg h : Bool) (m d a t : Nat) (acc : Int) (kvs : List (List AK × AV)) (dn : Bool) (raw : AV) (ph : String) (tk r : List Int) : List (Nat × AO) :=
  [(m, .ins "Memory" (memF acc d)), (d, .dT kvs), (a, .ins "TakeAll" (allF (.tup (hkA pg h)) dn t raw (tp r) ph)), (t, .lst (tk.map .int))]
/-- TakeAll: what it holds is what it held -/
theorem wp_after_same {t bf : Nat} {raw : AV} {ph : String} {it : Int} {tk r bs : List Int} (H : Hs M s c (AA4 pg h m d a t acc kvs false raw ph tk r ++ LO pg sd lo rr S loose ((bf, .lst (bs.map .int)) :: L))) (mm : Mm pg kvs w) (lk : Lk (w.nx (kd pg h)) r) (hl : tk.length + r.length < 1000) (pos : ∀ x ∈ r, 0 ≤ x) (nd : r.Nodup) (hb : bs = tk ++ r)
    (k : ∀ M', Hs M' s c (AA4 pg h m d a t acc kvs false raw ph tk r ++ LO pg sd lo rr S loose L) → Q (.bl true, M')) : wpO (m_law_after [.tup [.str "all", .tup (hkA pg h), .ref a, .int it], .ref bf, .ref sd, .ref lo, .ref m] M) Q := by
  subst hb
  have Hm' : Hm M s c m d acc kvs [(a, .ins "TakeAll" (allF (.tup (hkA pg h)) false t raw (tp r) ph)), (t, .lst (tk.map .int))] (LO pg sd lo rr S loose ((bf, .lst ((tk ++ r).map .int)) :: L)) := H
  have hbf := H.get (n := bf) (o := .lst ((tk ++ r).map .int)) (by simp)
  have bl := H.lt (bf, .lst ((tk ++ r).map .int)) (by simp)
  unfold m_law_after
  rw [w_call]
  refine ⟨rfl, ?_⟩
  unfold a_law_after
  (try push_cast [LO.gsd H, hk_of, stkD_look, str_eq, Hm'.at1])
  refine wp_holding Hm' mm lk hl pos nd fun hn M1 H1 => ?_
  have e1 := H1.get (n := hn) (o := .lst ((tk ++ r).map .int)) List.mem_cons_self
  have e2 := H1.get (n := bf) (o := .lst ((tk ++ r).map .int)) (by simp)
  have bl1 := H1.lt (bf, .lst ((tk ++ r).map .int)) (by simp)
  have nl1 := H1.lt (hn, .lst ((tk ++ r).map .int)) List.mem_cons_self
  have ea := H1.get (n := a) (o := .ins "TakeAll" (allF (.tup (hkA pg h)) false t raw (tp r) ph)) (by simp)
  have al1 := H1.lt (a, .ins "TakeAll" (allF (.tup (hkA pg h)) false t raw (tp r) ph)) (by simp)
  have fin : Hs M1 s c (AA4 pg h m d a t acc kvs false raw ph tk r ++ LO pg sd lo rr S loose L) := H1.drop.sub (List.Sublist.append_left LO.dropB _)
  generalize tk ++ r = ns at *
  (try push_cast [e2, e1, datI, eqv_l0, sel_lt bl1, sel_lt nl1])
  by_cases z : ns = []
  · subst z
    (try push_cast [e2, e1, datI, eqv_l0, sel_lt bl1, sel_lt nl1, eqv_00, sel_lt (Nat.lt_succ_of_lt bl1), sel_lt (Nat.lt_succ_of_lt nl1), ea, sel_lt al1, sel_lt (Nat.lt_succ_of_lt al1)])
    exact k _ (((fin.new _).drop.new _).drop)
  · have z' : (ns = []) = False := eq_false z
    (try push_cast [z', e2, e1, datI, eqv_l0, sel_lt bl1, sel_lt nl1, ea, sel_lt al1])
    exact k _ (fin.new _).drop
/-- TakeAll has taken -/
theorem wp_after_took {t bf : Nat} {raw : AV} {ph : String} {it : Int} (H : Hs M s c (AA4 pg h m d a t acc kvs false raw ph [] (S h) ++ LO pg sd lo rr S loose ((bf, .lst []) :: L))) (mm : Mm pg kvs w) (lk : Lk (w.nx (kd pg h)) (S h)) (hl : (S h).length < 1000) (pos : ∀ x ∈ S h, 0 ≤ x) (nd : (S h).Nodup) (hne : S h ≠ [])
    (k : ∀ M' n, Hs M' s c (AA4 pg h m d a t acc kvs false raw ph [] (S h) ++ LO pg sd lo (setR rr h n) (setS S h []) loose L) → Q (.bl true, M')) : wpO (m_law_after [.tup [.str "all", .tup (hkA pg h), .ref a, .int it], .ref bf, .ref sd, .ref lo, .ref m] M) Q := by
  have Hm' : Hm M s c m d acc kvs [(a, .ins "TakeAll" (allF (.tup (hkA pg h)) false t raw (tp (S h)) ph)), (t, .lst (([] : List Int).map .int))] (LO pg sd lo rr S loose ((bf, .lst []) :: L)) := H
  have hbf := H.get (n := bf) (o := .lst []) (by simp)
  have bl := H.lt (bf, .lst []) (by simp)
  unfold m_law_after
  rw [w_call]
  refine ⟨rfl, ?_⟩
  unfold a_law_after
  (try push_cast [LO.gsd H, hk_of, stkD_look, str_eq, Hm'.at1])
  refine wp_holding Hm' mm lk (by rw [List.length_nil]; omega) pos nd fun hn M1 H1 => ?_
  rw [List.nil_append] at H1
  have e1 := H1.get (n := hn) (o := .lst ((S h).map .int)) List.mem_cons_self
  have e2 := H1.get (n := bf) (o := .lst []) (by simp)
  have er := LO.row (A := (hn, .lst ((S h).map .int)) :: AA4 pg h m d a t acc kvs false raw ph [] (S h)) H1 h
  have rl1 := LO.rowlt (A := (hn, .lst ((S h).map .int)) :: AA4 pg h m d a t acc kvs false raw ph [] (S h)) H1 h
  have bl1 := H1.lt (bf, .lst []) (by simp)
  have nl1 := H1.lt (hn, .lst ((S h).map .int)) List.mem_cons_self
  have hA : (a, AO.ins "TakeAll" (allF (.tup (hkA pg h)) false t raw (tp (S h)) ph)) ∈ AA4 pg h m d a t acc kvs false raw ph [] (S h) := by simp
  have fin : Hs M1 s c (AA4 pg h m d a t acc kvs false raw ph [] (S h) ++ LO pg sd lo rr S loose L) := H1.drop.sub (List.Sublist.append_left LO.dropB _)
  have z' : (S h = []) = False := eq_false hne
  (try push_cast [e2, e1, er, datI, eqv_l0, eqv_ints, eqv_00, z', sel_lt bl1, sel_lt nl1, sel_lt rl1, sel_lt (Nat.lt_succ_of_lt bl1), sel_lt (Nat.lt_succ_of_lt nl1), sel_lt (Nat.lt_succ_of_lt rl1), LO.gsd fin, sel_lt (LO.sdlt fin), sel_lt (Nat.lt_succ_of_lt (LO.sdlt fin)), sel_lt (Nat.lt_succ_of_lt (Nat.lt_succ_of_lt (LO.sdlt fin))), hk_of, stkD_len, stkD_put, fin.get (List.mem_append_left _ hA), sel_ne (LO.asd hA fin), sel_lt (fin.lt _ (List.mem_append_left _ hA)), sel_lt (Nat.lt_succ_of_lt (fin.lt _ (List.mem_append_left _ hA))), sel_lt (Nat.lt_succ_of_lt (Nat.lt_succ_of_lt (fin.lt _ (List.mem_append_left _ hA))))])
  have F := LO.store (xs := []) (((fin.new (.lst [])).drop.new (.lst [])).drop.new (.lst [])) h
  exact k _ _ F
/-- the held are appended to the loose -/
theorem wp_append_all {hn : Nat} {tk : List Int} {x0 x1 x2 x4 x5 x6 x7 x8 x9 x10 x11 : Option AV} {QS : Fl × ASt × AH → Prop} (H : Hs M s c ((hn, .lst (tk.map .int)) :: (A ++ LO pg sd lo rr S loose L))) (hl : tk.length + loose.length < 1000)
    (k : ∀ M' v, Hs M' s c ((hn, .lst (tk.map .int)) :: (A ++ LO pg sd lo rr S (loose ++ tk) L)) → QS (.nx, [x0, x1, x2, some (.ref lo), x4, x5, x6, x7, x8, x9, x10, v], M')) :
    wpO (forGo (aName 11) (sExpr (eLM mAppend (eVar 3) (gCons' (eVar 11) gNil'))) (okL hn (tk.map .int)) (tk.map .int) [x0, x1, x2, some (.ref lo), x4, x5, x6, x7, x8, x9, x10, x11] M) QS := by
  refine wp_for (fun i σ M' => Hs M' s c ((hn, .lst (tk.map .int)) :: (A ++ LO pg sd lo rr S (loose ++ tk.take i) L)) ∧ ∃ v, σ = [x0, x1, x2, some (.ref lo), x4, x5, x6, x7, x8, x9, x10, v]) ⟨by rw [List.take_zero, List.append_nil]; exact H, _, rfl⟩ ?_ ?_
  · rintro i x σ M' hx ⟨H', v, rfl⟩
    rw [List.getElem?_map] at hx
    obtain ⟨y, hy, rfl⟩ := Option.map_eq_some_iff.mp hx
    have e1 := H'.get (n := hn) (o := .lst (tk.map .int)) List.mem_cons_self
    refine ⟨by rw [okL_eq, e1]; rfl, ?_⟩
    have hlt := (List.getElem?_eq_some_iff.mp hy).1
    have el := LO.glo (A := (hn, .lst (tk.map .int)) :: A) H'
    have ea := mAppend_l (y := .int y) el (by rw [List.length_map, List.length_append, List.length_take]; omega)
    have eA : (loose ++ tk.take i).map AV.int ++ [.int y] = (loose ++ tk.take (i + 1)).map AV.int := by
      rw [List.take_add_one, hy, List.map_append, List.map_append, List.map_append, List.append_assoc]
      rfl
    rw [eA] at ea
    (try push_cast [el, ea])
    exact ⟨LO.setLo (A := (hn, .lst (tk.map .int)) :: A) H' _, _, rfl⟩
  · rintro σ M' ⟨H', v, rfl⟩
    have e1 := H'.get (n := hn) (o := .lst (tk.map .int)) List.mem_cons_self
    refine ⟨by rw [okL_eq, e1]; rfl, ?_⟩
    rw [List.length_map, List.take_length] at H'
    exact k _ _ H'
/-- TakeAll is done -/
theorem wp_after_gone {t bf : Nat} {raw : AV} {ph : String} {it : Int} {tk : List Int} (H : Hs M s c (AA4 pg h m d a t acc kvs true raw ph tk [] ++ LO pg sd lo rr S loose ((bf, .lst (tk.map .int)) :: L))) (mm : Mm pg kvs w) (hl : tk.length + loose.length < 1000) (hS : tk = [] → S h = [])
    (k : ∀ M', Hs M' s c (AA4 pg h m d a t acc kvs true raw ph tk [] ++ LO pg sd lo rr S (loose ++ tk) L) → Q (.bl true, M')) : wpO (m_law_after [.tup [.str "all", .tup (hkA pg h), .ref a, .int it], .ref bf, .ref sd, .ref lo, .ref m] M) Q := by
  have Hm' : Hm M s c m d acc kvs [(a, .ins "TakeAll" (allF (.tup (hkA pg h)) true t raw (tp []) ph)), (t, .lst (tk.map .int))] (LO pg sd lo rr S loose ((bf, .lst (tk.map .int)) :: L)) := H
  have hbf := H.get (n := bf) (o := .lst (tk.map .int)) (by simp)
  have bl := H.lt (bf, .lst (tk.map .int)) (by simp)
  unfold m_law_after
  rw [w_call]
  refine ⟨rfl, ?_⟩
  unfold a_law_after
  (try push_cast [LO.gsd H, hk_of, stkD_look, str_eq, Hm'.at1])
  refine wp_holding Hm' mm trivial (by rw [List.length_nil]; omega) (fun x hx => (nomatch hx)) List.nodup_nil fun hn M1 H1 => ?_
  rw [List.append_nil] at H1
  have e1 := H1.get (n := hn) (o := .lst (tk.map .int)) List.mem_cons_self
  have e2 := H1.get (n := bf) (o := .lst (tk.map .int)) (by simp)
  have er := LO.row (A := (hn, .lst (tk.map .int)) :: AA4 pg h m d a t acc kvs true raw ph tk []) H1 h
  have rl1 := LO.rowlt (A := (hn, .lst (tk.map .int)) :: AA4 pg h m d a t acc kvs true raw ph tk []) H1 h
  have bl1 := H1.lt (bf, .lst (tk.map .int)) (by simp)
  have nl1 := H1.lt (hn, .lst (tk.map .int)) List.mem_cons_self
  have hA : (a, AO.ins "TakeAll" (allF (.tup (hkA pg h)) true t raw (tp []) ph)) ∈ AA4 pg h m d a t acc kvs true raw ph tk [] := by simp
  have hT : (t, AO.lst (tk.map .int)) ∈ AA4 pg h m d a t acc kvs true raw ph tk [] := by simp
  have fin0 : Hs M1 s c ((hn, .lst (tk.map .int)) :: (AA4 pg h m d a t acc kvs true raw ph tk [] ++ LO pg sd lo rr S loose L)) := H1.sub (List.Sublist.cons₂ _ (List.Sublist.append_left LO.dropB _))
  have fin := fin0.drop
  have nlo : hn ≠ lo := Hs.neq (p := (hn, .lst (tk.map .int))) (q := (lo, .lst (loose.map .int))) (L1 := [(hn, .lst (tk.map .int))]) fin0 List.mem_cons_self (by simp)
  have ea := fin.get (List.mem_append_left _ hA)
  have et := fin.get (List.mem_append_left _ hT)
  have al := fin.lt _ (List.mem_append_left _ hA)
  have tl := fin.lt _ (List.mem_append_left _ hT)
  by_cases z : tk = []
  · subst z
    have hS := hS rfl
    rw [hS] at er
    (try push_cast [e2, e1, er, datI, eqv_l0, eqv_ints, eqv_00, sel_lt bl1, sel_lt nl1, sel_lt rl1, sel_lt (Nat.lt_succ_of_lt bl1), sel_lt (Nat.lt_succ_of_lt nl1), sel_lt (Nat.lt_succ_of_lt rl1), sel_lt (Nat.lt_succ_of_lt (Nat.lt_succ_of_lt nl1)), sel_lt (Nat.lt_succ_of_lt (Nat.lt_succ_of_lt rl1)), sel_lt (Nat.lt_succ_of_lt (Nat.lt_succ_of_lt (Nat.lt_succ_of_lt nl1))), sel_lt (Nat.lt_succ_of_lt (Nat.lt_succ_of_lt (Nat.lt_succ_of_lt rl1))), ea, et, sel_lt al, sel_lt tl, sel_lt (Nat.lt_succ_of_lt al), sel_lt (Nat.lt_succ_of_lt tl), sel_lt (Nat.lt_succ_of_lt (Nat.lt_succ_of_lt al)), sel_lt (Nat.lt_succ_of_lt (Nat.lt_succ_of_lt tl)), sel_lt (Nat.lt_succ_of_lt (Nat.lt_succ_of_lt (Nat.lt_succ_of_lt al))), sel_lt (Nat.lt_succ_of_lt (Nat.lt_succ_of_lt (Nat.lt_succ_of_lt tl)))])
    refine wp_append_all (tk := []) ((((fin0.new _).drop.new _).drop.new _).drop.new _).drop hl fun M' v H' => ?_
    (try push_cast [])
    exact k _ H'.drop
  · have z' : (tk = []) = False := eq_false z
    (try push_cast [e2, e1, er, datI, eqv_l0, eqv_ints, eqv_00, z', sel_lt bl1, sel_lt nl1, sel_lt rl1, sel_lt (Nat.lt_succ_of_lt bl1), sel_lt (Nat.lt_succ_of_lt nl1), sel_lt (Nat.lt_succ_of_lt rl1), ea, et, sel_lt al, sel_lt tl, sel_lt (Nat.lt_succ_of_lt al), sel_lt (Nat.lt_succ_of_lt tl)])
    refine wp_append_all (tk := tk) ((fin0.new _).drop.new _).drop hl fun M' v H' => ?_
    (try push_cast [])
    exact k _ H'.drop
end
end Sy
/-! the law -/
namespace Sy
open PySem L2
open Stk (HV tag kd tp Lk Mch setS)
structure Mx where
  mc : Mch
  a : Nat
  os : List (Nat × AO)
def tupX (pg : Bool) (x : Mx) : AV := tupM pg x.mc x.a
def flat (xs : List Mx) : List (Nat × AO) := xs.flatMap (·.os)
theorem flat_app {xs ys : List Mx} : flat (xs ++ ys) = flat xs ++ flat ys := by simp [flat]
theorem flat_cons {x : Mx} {ys : List Mx} : flat (x :: ys) = x.os ++ flat ys := by simp [flat]
theorem flat_nil : flat [] = [] := rfl
abbrev hdsO (pg : Bool) : AO := .lst [.tup (hkA pg false), .tup (hkA pg true)]
abbrev MD (m d : Nat) (acc : Int) (kvs : List (List AK × AV)) : List (Nat × AO) := [(m, .ins "Memory" (memF acc d)), (d, .dT kvs)]
structure W2 (M : AH) (s c m d sd lo hl ml : Nat) (acc : Int) (kvs : List (List AK × AV)) (pg : Bool) (rr : Bool → Nat) (S : Bool → List Int) (loose : List Int) (w : Stk.Wd) (xs : List Mx) (T : Nat) : Prop where
  hs : Hs M s c (MD m d acc kvs ++ LO pg sd lo rr S loose ((hl, hdsO pg) :: (ml, .lst (xs.map (tupX pg))) :: flat xs))
  mm : Mm pg kvs w
  inv : Stk.Inv pg w S loose (xs.map (·.mc))
  ob : ∀ x ∈ xs, Ob pg x.mc x.a x.os
  kl : kvs.length ≤ T
  xl : xs.length ≤ 5
section
variable {M : AH} {s c m d sd lo hl ml : Nat} {acc : Int} {kvs : List (List AK × AV)} {pg h : Bool} {w : Stk.Wd} {Q : AV × AH → Prop} {A L os : List (Nat × AO)} {S : Bool → List Int} {loose : List Int} {rr : Bool → Nat} {xs l1 l2 : List Mx} {x : Mx} {T : Nat}
/-- one machine's things brought to the front -/
theorem foc_perm {B C : List (Nat × AO)} {y z : Nat × AO} : (B ++ os ++ LO pg sd lo rr S loose (y :: z :: (flat l1 ++ flat l2))).Perm (B ++ LO pg sd lo rr S loose (y :: z :: (flat l1 ++ (os ++ flat l2)))) := by
  classical
  refine List.perm_iff_count.mpr fun q => ?_
  simp only [List.count_append, List.count_cons]
  omega
theorem W2.foc (W : W2 M s c m d sd lo hl ml acc kvs pg rr S loose w (l1 ++ x :: l2) T) :
    Hs M s c (MD m d acc kvs ++ x.os ++ LO pg sd lo rr S loose ((hl, hdsO pg) :: (ml, .lst ((l1 ++ x :: l2).map (tupX pg))) :: (flat l1 ++ flat l2))) :=
  W.hs.perm (by rw [flat_app, flat_cons]; exact foc_perm (C := []))
def stepF : Mch → AF
  | .pop0 _ => m_Pop_step | .pop1 _ _ => m_Pop_step | .pop2 _ _ _ => m_Pop_step
  | .push0 _ _ => m_Push_step | .push1 _ _ _ => m_Push_step | .push2 _ _ _ => m_Push_step
  | .all0 _ => m_TakeAll_step | .all1 _ _ => m_TakeAll_step | .all2 _ _ _ => m_TakeAll_step
def heldM : Mch → List Int
  | .all2 _ t r => t ++ r
  | _ => []
/-- behind a step and what the law does then -/
def Res (s c m d sd lo a : Nat) (acc : Int) (kvs : List (List AK × AV)) (pg : Bool) (L : List (Nat × AO)) (mc : Mch) (k1 k2 : List Mch) (M2 : AH) : Prop :=
  ∃ kvs' w' rr' S' loose' os', Hs M2 s c (MD m d (acc + 1) kvs' ++ os' ++ LO pg sd lo rr' S' loose' L) ∧ Mm pg kvs' w' ∧ kvs'.length ≤ kvs.length + 1 ∧
    ((∃ mc', Ob pg mc' a os' ∧ tupM pg mc' a = tupM pg mc a ∧ Stk.Inv pg w' S' loose' (k1 ++ mc' :: k2)) ∨ ((∃ cn fs, (a, AO.ins cn fs) ∈ os' ∧ look fs "done" = some (.bl true)) ∧ Stk.Inv pg w' S' loose' (k1 ++ k2)))
theorem LO.dropC {b : Nat × AO} : (A ++ LO pg sd lo rr S loose L).Sublist (A ++ LO pg sd lo rr S loose (b :: L)) := List.Sublist.append_left LO.dropB _
theorem wp_mstep {a bf : Nat} {mc : Mch} {k1 k2 : List Mch} (F : Hs M s c (MD m d acc kvs ++ os ++ LO pg sd lo rr S loose ((bf, .lst ((heldM mc).map .int)) :: L))) (o : Ob pg mc a os) (mm : Mm pg kvs w) (I : Stk.Inv pg w S loose (k1 ++ mc :: k2)) (hl : kvs.length < 1000)
    (k : ∀ M1, M1.get m = some (.ins "Memory" (memF (acc + 1) d)) → (∀ Qa : AV × AH → Prop, (∀ M2, Res s c m d sd lo a acc kvs pg L mc k1 k2 M2 → Qa (.bl true, M2)) → wpO (m_law_after [tupM pg mc a, .ref bf, .ref sd, .ref lo, .ref m] M1) Qa) → Q (.non, M1)) :
    wpO (stepF mc [.ref a, .ref m] M) Q := by
  have F0 : Hm M s c m d acc kvs os (LO pg sd lo rr S loose ((bf, .lst ((heldM mc).map .int)) :: L)) := F.cast rfl
  have hl' : kvs.length < 100000 := by omega
  have lenS := I.lenS
  have lenL := I.lenL
  cases o with
  | @pop0 h a raw be =>
    refine wp_pop0 F mm (fun z M1 H => ?_) (fun z M1 H => ?_)
    · refine k M1 H.mem fun Qa q => ?_
      refine wp_after_none (A := MD m d (acc + 1) kvs ++ [(a, .ins "Pop" (popF (.tup (hkA pg h)) true .non (hvA (w.hd h)) be "read the cell of an item"))]) (cn := "Pop") (List.mem_append_right _ List.mem_cons_self) rfl rfl H (I.empty z) fun M2 H2 => q M2 ⟨kvs, w, rr, S, loose, _, H2.sub LO.dropC, mm, Nat.le_succ _, .inr ⟨⟨"Pop", _, List.mem_cons_self, rfl⟩, I.out rfl⟩⟩
    · refine k M1 H.mem fun Qa q => ?_
      exact wp_after_idle (A := MD m d (acc + 1) kvs ++ [(a, .ins "Pop" (popF (.tup (hkA pg h)) false .non (hvA (w.hd h)) be "read the cell of an item"))]) (.inl rfl) H.at1 rfl H (q M1 ⟨kvs, w, rr, S, loose, _, H.sub LO.dropC, mm, Nat.le_succ _, .inl ⟨_, .pop1, rfl, I.pop0 z⟩⟩)
  | @pop1 h a raw be =>
    refine wp_pop1 F mm (fun M1 H => ?_)
    refine k M1 H.mem fun Qa q => ?_
    exact wp_after_idle (A := MD m d (acc + 1) kvs ++ [(a, .ins "Pop" (popF (.tup (hkA pg h)) false .non (hvA raw) (.int (w.nx (kd pg h) (Stk.top raw - 1))) "swap the head"))]) (.inl rfl) H.at1 rfl H (q M1 ⟨kvs, w, rr, S, loose, _, H.sub LO.dropC, mm, Nat.le_succ _, .inl ⟨_, .pop2, rfl, I.pop1⟩⟩)
  | @pop2 h a raw b =>
    refine wp_pop2 F mm hl' (fun z M1 H => ?_) (fun z M1 H => ?_)
    · refine k M1 H.mem fun Qa q => ?_
      obtain ⟨r, er, I'⟩ := I.pop2 z
      refine wp_after_popped (A := MD m d (acc + 1) (putM kvs (hk pg h) (hvA (some (b, tag raw + 1)))) ++ [(a, .ins "Pop" (popF (.tup (hkA pg h)) true (.int (Stk.top raw - 1)) (hvA raw) (.int b) "swap the head"))]) (cn := "Pop") (List.mem_append_right _ List.mem_cons_self) rfl rfl H er (by omega) fun M2 n H2 =>
        q M2 ⟨_, _, _, _, _, _, H2.sub LO.dropC, mm.setH h _, putM_len, .inr ⟨⟨"Pop", _, List.mem_cons_self, rfl⟩, I'⟩⟩
    · refine k M1 H.mem fun Qa q => ?_
      exact wp_after_idle (A := MD m d (acc + 1) kvs ++ [(a, .ins "Pop" (popF (.tup (hkA pg h)) false .non (hvA raw) (.int b) "read the head"))]) (.inl rfl) H.at1 rfl H (q M1 ⟨kvs, w, rr, S, loose, _, H.sub LO.dropC, mm, Nat.le_succ _, .inl ⟨_, .pop0, rfl, I.pop2f⟩⟩)
  | @push0 h a x raw =>
    refine wp_push0 F mm (fun M1 H => ?_)
    refine k M1 H.mem fun Qa q => ?_
    exact wp_after_idle (A := MD m d (acc + 1) kvs ++ [(a, .ins "Push" (pushF (.tup (hkA pg h)) (.int x) false (hvA (w.hd h)) "write the cell of the item"))]) (.inr rfl) H.at1 rfl H (q M1 ⟨kvs, w, rr, S, loose, _, H.sub LO.dropC, mm, Nat.le_succ _, .inl ⟨_, .push1, rfl, I.push0⟩⟩)
  | @push1 h a x raw =>
    refine wp_push1 F mm hl' (fun M1 H => ?_)
    refine k M1 H.mem fun Qa q => ?_
    exact wp_after_idle (A := MD m d (acc + 1) (putM kvs (nk (kd pg h) x) (.int (Stk.top raw))) ++ [(a, .ins "Push" (pushF (.tup (hkA pg h)) (.int x) false (hvA raw) "swap the head"))]) (.inr rfl) H.at1 rfl H (q M1 ⟨_, _, rr, S, loose, _, H.sub LO.dropC, mm.setN _ _ _, putM_len, .inl ⟨_, .push2, rfl, I.push1⟩⟩)
  | @push2 h a x raw =>
    refine wp_push2 F mm hl' (fun z M1 H => ?_) (fun z M1 H => ?_)
    · refine k M1 H.mem fun Qa q => ?_
      have := lenS h
      refine wp_after_pushed (A := MD m d (acc + 1) (putM kvs (hk pg h) (hvA (some (x + 1, tag raw + 1)))) ++ [(a, .ins "Push" (pushF (.tup (hkA pg h)) (.int x) true (hvA raw) "read the head"))]) H.at1 rfl H (Nat.lt_of_le_of_lt (lenS h) (by decide)) fun M2 n H2 =>
        q M2 ⟨_, _, _, _, _, _, H2.sub LO.dropC, mm.setH h _, putM_len, .inr ⟨⟨"Push", _, List.mem_cons_self, rfl⟩, I.push2 z⟩⟩
    · refine k M1 H.mem fun Qa q => ?_
      exact wp_after_idle (A := MD m d (acc + 1) kvs ++ [(a, .ins "Push" (pushF (.tup (hkA pg h)) (.int x) false (hvA raw) "read the head"))]) (.inr rfl) H.at1 rfl H (q M1 ⟨kvs, w, rr, S, loose, _, H.sub LO.dropC, mm, Nat.le_succ _, .inl ⟨_, .push0, rfl, I.push2f⟩⟩)
  | @all0 h a t raw =>
    refine wp_all0 F mm (fun z M1 H => ?_) (fun z M1 H => ?_)
    · refine k M1 H.mem fun Qa q => ?_
      refine wp_after_gone (tk := []) H mm (by rw [List.length_nil]; omega) (fun _ => I.empty z) fun M2 H2 => ?_
      rw [List.append_nil] at H2
      exact q M2 ⟨kvs, w, rr, S, loose, _, H2, mm, Nat.le_succ _, .inr ⟨⟨"TakeAll", _, List.mem_cons_self, rfl⟩, I.out rfl⟩⟩
    · refine k M1 H.mem fun Qa q => ?_
      exact wp_after_same (tk := []) (r := []) (bs := []) H mm trivial (by decide) (fun x hx => (nomatch hx)) List.nodup_nil rfl fun M2 H2 => q M2 ⟨kvs, w, rr, S, loose, _, H2, mm, Nat.le_succ _, .inl ⟨_, .all1, rfl, I.all0 z⟩⟩
  | @all1 h a t raw =>
    refine wp_all1 F mm hl' (fun z M1 H => ?_) (fun z M1 H => ?_)
    · refine k M1 H.mem fun Qa q => ?_
      obtain ⟨hne, ht, I'⟩ := I.all1 z
      rw [ht] at H
      have := lenS h
      exact wp_after_took H (mm.setH h _) (I.lk h) (Nat.lt_of_le_of_lt (lenS h) (by decide)) (fun x hx => (I.pos h x hx).1) (I.ndS h) hne fun M2 n H2 => q M2 ⟨_, _, _, _, _, _, H2, mm.setH h _, putM_len, .inl ⟨.all2 h [] (S h), .all2 (tk := []), rfl, I'⟩⟩
    · refine k M1 H.mem fun Qa q => ?_
      exact wp_after_same (tk := []) (r := []) (bs := []) H mm trivial (by decide) (fun x hx => (nomatch hx)) List.nodup_nil rfl fun M2 H2 => q M2 ⟨kvs, w, rr, S, loose, _, H2, mm, Nat.le_succ _, .inl ⟨_, .all0, rfl, I.all1f⟩⟩
  | @all2 h a t tk r raw =>
    have hm := I.lenM (a := .all2 h tk r) Stk.here
    have hp := I.posM (.all2 h tk r) Stk.here
    have hh : Stk.hand (.all2 h tk r) = tk ++ r := rfl
    rw [hh, List.length_append] at hm
    rw [hh] at hp
    have hn := I.ndM (a := .all2 h tk r) Stk.here
    rw [hh, List.nodup_append] at hn
    cases r with
    | nil => exact absurd rfl (I.mi _ Stk.here).2
    | cons x r =>
      obtain ⟨e, I'⟩ := I.all2
      rw [List.length_cons] at hm
      have lk := (I.mi _ Stk.here).1
      refine wp_all2 (x := x) (r := r) F mm e (by omega) (fun y hy => (hp y (by simp [hy])).1) (fun z M1 H => ?_) (fun z M1 H => ?_)
      · subst z
        refine k M1 H.mem fun Qa q => ?_
        refine wp_after_gone (tk := tk ++ [x]) H mm (by rw [List.length_append, List.length_singleton]; omega) (fun z => absurd z (by simp)) fun M2 H2 => q M2 ⟨kvs, w, rr, S, _, _, H2, mm, Nat.le_succ _, .inr ⟨⟨"TakeAll", _, List.mem_cons_self, rfl⟩, I.gone⟩⟩
      · refine k M1 H.mem fun Qa q => ?_
        refine wp_after_same (tk := tk ++ [x]) (r := r) H mm lk.2 (by rw [List.length_append, List.length_singleton]; omega) (fun y hy => (hp y (by simp [hy])).1) (List.nodup_cons.mp hn.2.1).2 (by show tk ++ x :: r = _; rw [List.append_assoc]; rfl) fun M2 H2 => q M2 ⟨kvs, w, rr, S, loose, _, H2, mm, Nat.le_succ _, .inl ⟨.all2 h (tk ++ [x]) r, .all2, rfl, I' z⟩⟩
theorem W2.drop (W : W2 M s c m d sd lo hl ml acc kvs pg rr S loose w xs T) {M' : AH} {b : Nat × AO} (H : Hs M' s c (b :: (MD m d acc kvs ++ LO pg sd lo rr S loose ((hl, hdsO pg) :: (ml, .lst (xs.map (tupX pg))) :: flat xs)))) : W2 M' s c m d sd lo hl ml acc kvs pg rr S loose w xs T :=
  ⟨H.drop, W.mm, W.inv, W.ob, W.kl, W.xl⟩
/-- the stacks are compared -/
theorem wp_heads {x0 x1 x5 x6 x7 x8 x9 x10 x11 x12 x13 x14 : Option AV} {QS : Fl × ASt × AH → Prop} (W : W2 M s c m d sd lo hl ml acc kvs pg rr S loose w xs T)
    (k : ∀ M' v, W2 M' s c m d sd lo hl ml acc kvs pg rr S loose w xs T → QS (.nx, [x0, x1, some (.ref m), some (.ref hl), some (.ref sd), x5, x6, x7, x8, x9, x10, x11, x12, v, x14], M')) :
    wpO (forGo (aName 13) (sIf (qBl (eBin oNe (eArgs m_items_of (gCons' (eVar 2) (gCons' (eVar 13) gNil'))) (eSub (eVar 4) (eVar 13)))) (sRet (eC (.bl false))) sNext) (okL hl [.tup (hkA pg false), .tup (hkA pg true)]) [.tup (hkA pg false), .tup (hkA pg true)]
      [x0, x1, some (.ref m), some (.ref hl), some (.ref sd), x5, x6, x7, x8, x9, x10, x11, x12, x13, x14] M) QS := by
  refine wp_for (fun i σ M' => W2 M' s c m d sd lo hl ml acc kvs pg rr S loose w xs T ∧ ∃ v, σ = [x0, x1, some (.ref m), some (.ref hl), some (.ref sd), x5, x6, x7, x8, x9, x10, x11, x12, v, x14]) ⟨W, _, rfl⟩ ?_ ?_
  · rintro i x σ M' hx ⟨W', v, rfl⟩
    have eh := W'.hs.get (n := hl) (o := hdsO pg) (by simp)
    refine ⟨by rw [okL_eq, eh]; rfl, ?_⟩
    obtain ⟨h, rfl⟩ : ∃ h, x = .tup (hkA pg h) := by
      match i, hx with
      | 0, hx => exact ⟨false, by simpa using hx.symm⟩
      | 1, hx => exact ⟨true, by simpa using hx.symm⟩
      | i + 2, hx => simp at hx
    have em := W'.hs.get (n := m) (o := .ins "Memory" (memF acc d)) (by simp)
    have ed := W'.hs.get (n := d) (o := .dT kvs) (by simp)
    have ml' := W'.hs.lt (m, .ins "Memory" (memF acc d)) (by simp)
    have dl' := W'.hs.lt (d, .dT kvs) (by simp)
    have I := W'.inv
    (try push_cast [])
    refine wp_items_of (xs := S h) em ed ml' dl' W'.mm (I.hd h) (I.lk h) (fun x hx => (I.pos h x hx).1) (Nat.lt_of_le_of_lt (I.lenS h) (by decide)) (I.ndS h) fun S0 n0 => ?_
    have H1 := W'.hs.new (.lst ((S h).map .int))
    have H1 := ((H1.new (.st S0 n0)).drop)
    have er := LO.row (A := (M'.next, .lst ((S h).map .int)) :: MD m d acc kvs) H1 h
    have e1 := H1.get (n := M'.next) (o := .lst ((S h).map .int)) List.mem_cons_self
    have es := LO.gsd (A := (M'.next, .lst ((S h).map .int)) :: MD m d acc kvs) H1
    generalize (M'.new (.lst ((S h).map .int))).new (.st S0 n0) = M1 at *
    (try push_cast [es, hk_of, stkD_look, e1, er, datI, eqv_ints])
    exact ⟨W'.drop H1, _, rfl⟩
  · rintro σ M' ⟨W', v, rfl⟩
    have eh := W'.hs.get (n := hl) (o := hdsO pg) (by simp)
    exact ⟨by rw [okL_eq, eh]; rfl, k _ _ W'⟩
theorem W2.drawn {M' : AH} (W : W2 M s c m d sd lo hl ml acc kvs pg rr S loose w xs T) (hs : St M' s c) (hf : ∀ n, n ≠ s → n ≠ c → M'.get n = M.get n) (hn : M'.next = M.next) : W2 M' s c m d sd lo hl ml acc kvs pg rr S loose w xs T :=
  ⟨W.hs.drawn hs hf hn, W.mm, W.inv, W.ob, W.kl, W.xl⟩
theorem br_join {b : Bool} {K : Fl × ASt × AH → Prop} {o o' : Option (Fl × ASt × AH)} (P : Fl × ASt × AH → Prop) (h : ∀ p, P p → K p) (h1 : b = true → wpO o P) (h2 : b = false → wpO o' P) : br b (wpO o K) (wpO o' K) := ⟨fun e => (h1 e).mono h, fun e => (h2 e).mono h⟩
abbrev newL (pg : Bool) (m d sd ml : Nat) (acc : Int) (kvs : List (List AK × AV)) (rr : Bool → Nat) (S : Bool → List Int) (ts : List AV) (fl : List (Nat × AO)) : List (Nat × AO) :=
  (ml, .lst ts) :: (MD m d acc kvs ++ ((sd, .dT (stkD pg rr)) :: (rr false, .lst ((S false).map .int)) :: (rr true, .lst ((S true).map .int)) :: fl))
theorem W2.toNew (W : W2 M s c m d sd lo hl ml acc kvs pg rr S loose w xs T) : Hs M s c ((lo, .lst (loose.map .int)) :: (hl, hdsO pg) :: newL pg m d sd ml acc kvs rr S (xs.map (tupX pg)) (flat xs)) := by
  refine W.hs.perm ?_
  classical
  refine List.perm_iff_count.mpr fun q => ?_
  simp only [List.count_append, List.count_cons]
  omega
theorem W2.add {M' : AH} {mc : Mch} {a : Nat} {os : List (Nat × AO)} {loose' : List Int} (W : W2 M s c m d sd lo hl ml acc kvs pg rr S loose w xs T) (H : Hs M' s c (os ++ (lo, .lst (loose'.map .int)) :: (hl, hdsO pg) :: newL pg m d sd ml acc kvs rr S ((xs ++ [Mx.mk mc a os]).map (tupX pg)) (flat xs)))
    (o : Ob pg mc a os) (I : Stk.Inv pg w S loose' (xs.map (·.mc) ++ [mc])) (hx : xs.length < 5) : W2 M' s c m d sd lo hl ml acc kvs pg rr S loose' w (xs ++ [Mx.mk mc a os]) T := by
  refine ⟨H.perm ?_, W.mm, by rw [List.map_append]; exact I, fun x hx => ?_, W.kl, by rw [List.length_append, List.length_singleton]; omega⟩
  · rw [flat_app, flat_cons, flat_nil]
    classical
    refine List.perm_iff_count.mpr fun q => ?_
    simp only [List.count_append, List.count_cons, List.count_nil]
    omega
  · rcases List.mem_append.mp hx with hx | hx
    · exact W.ob x hx
    · rw [List.mem_singleton] at hx; subst hx; exact o
theorem newL_set {M' : AH} {B : List (Nat × AO)} {ts ts' : List AV} {fl : List (Nat × AO)} {y z : Nat × AO} (H : Hs M' s c (B ++ y :: z :: newL pg m d sd ml acc kvs rr S ts fl)) : Hs (M'.set ml (.lst ts')) s c (B ++ y :: z :: newL pg m d sd ml acc kvs rr S ts' fl) := by
  have H1 : Hs M' s c ((B ++ [y, z]) ++ newL pg m d sd ml acc kvs rr S ts fl) := H.perm (by rw [List.append_assoc]; exact List.Perm.refl _)
  have H2 := Hs.set H1 (.lst ts')
  exact H2.perm (by rw [List.append_assoc]; exact List.Perm.refl _)
theorem Ob.kind {mc : Mch} {a : Nat} (o : Ob pg mc a os) : ∃ cn fs, (a, AO.ins cn fs) ∈ os ∧ look fs "step" = none ∧ look fs "holding" = none ∧ look fs "done" = some (.bl false) ∧
    ((wordM mc = "pop" ∧ cn = "Pop" ∧ stepF mc = m_Pop_step ∧ heldM mc = []) ∨ (wordM mc = "push" ∧ cn = "Push" ∧ stepF mc = m_Push_step ∧ heldM mc = []) ∨ (wordM mc = "all" ∧ cn = "TakeAll" ∧ stepF mc = m_TakeAll_step)) := by
  cases o
  case pop0 => exact ⟨_, _, List.mem_cons_self, rfl, rfl, rfl, .inl ⟨rfl, rfl, rfl, rfl⟩⟩
  case pop1 => exact ⟨_, _, List.mem_cons_self, rfl, rfl, rfl, .inl ⟨rfl, rfl, rfl, rfl⟩⟩
  case pop2 => exact ⟨_, _, List.mem_cons_self, rfl, rfl, rfl, .inl ⟨rfl, rfl, rfl, rfl⟩⟩
  case push0 => exact ⟨_, _, List.mem_cons_self, rfl, rfl, rfl, .inr (.inl ⟨rfl, rfl, rfl, rfl⟩)⟩
  case push1 => exact ⟨_, _, List.mem_cons_self, rfl, rfl, rfl, .inr (.inl ⟨rfl, rfl, rfl, rfl⟩)⟩
  case push2 => exact ⟨_, _, List.mem_cons_self, rfl, rfl, rfl, .inr (.inl ⟨rfl, rfl, rfl, rfl⟩)⟩
  case all0 => exact ⟨_, _, List.mem_cons_self, rfl, rfl, rfl, .inr (.inr ⟨rfl, rfl, rfl⟩)⟩
  case all1 => exact ⟨_, _, List.mem_cons_self, rfl, rfl, rfl, .inr (.inr ⟨rfl, rfl, rfl⟩)⟩
  case all2 => exact ⟨_, _, List.mem_cons_self, rfl, rfl, rfl, .inr (.inr ⟨rfl, rfl, rfl⟩)⟩
theorem wp_hold {mc : Mch} {a : Nat} {k1 k2 : List Mch} (F : Hs M s c (MD m d acc kvs ++ os ++ L)) (o : Ob pg mc a os) (hw : wordM mc = "all") (mm : Mm pg kvs w) (I : Stk.Inv pg w S loose (k1 ++ mc :: k2))
    (k : ∀ n M', Hs M' s c ((n, .lst ((heldM mc).map .int)) :: (MD m d acc kvs ++ os ++ L)) → Q (.ref n, M')) : wpO (m_TakeAll_holding [.ref a, .ref m] M) Q := by
  cases o
  case all0 => exact wp_holding (tk := []) (r := []) F mm trivial (by decide) (fun x hx => (nomatch hx)) List.nodup_nil k
  case all1 => exact wp_holding (tk := []) (r := []) F mm trivial (by decide) (fun x hx => (nomatch hx)) List.nodup_nil k
  case all2 h t tk r raw =>
    have hm := I.lenM (a := .all2 h tk r) Stk.here
    have hp := I.posM (.all2 h tk r) Stk.here
    have hh : Stk.hand (.all2 h tk r) = tk ++ r := rfl
    rw [hh, List.length_append] at hm
    rw [hh] at hp
    exact wp_holding (tk := tk) (r := r) F mm (I.mi _ Stk.here).1 (by omega) (fun x hx => (hp x (by simp [hx])).1) (by have := I.ndM (a := .all2 h tk r) Stk.here; rw [hh, List.nodup_append] at this; exact this.2.1) k
  all_goals (simp [wordM] at hw)
/-- a machine's things back in their place -/
theorem W2.back {M' : AH} {kvs' : List (List AK × AV)} {w' : Stk.Wd} {rr' : Bool → Nat} {S' : Bool → List Int} {loose' : List Int} {os' : List (Nat × AO)} {mc' : Mch} (W : W2 M s c m d sd lo hl ml acc kvs pg rr S loose w (l1 ++ x :: l2) T)
    (H : Hs M' s c (MD m d (acc + 1) kvs' ++ os' ++ LO pg sd lo rr' S' loose' ((hl, hdsO pg) :: (ml, .lst ((l1 ++ x :: l2).map (tupX pg))) :: (flat l1 ++ flat l2)))) (mm : Mm pg kvs' w') (kl : kvs'.length ≤ kvs.length + 1) (o : Ob pg mc' x.a os') (ht : tupM pg mc' x.a = tupM pg x.mc x.a)
    (I : Stk.Inv pg w' S' loose' (l1.map (·.mc) ++ mc' :: l2.map (·.mc))) : W2 M' s c m d sd lo hl ml (acc + 1) kvs' pg rr' S' loose' w' (l1 ++ Mx.mk mc' x.a os' :: l2) (T + 1) := by
  have ex : (l1 ++ x :: l2).map (tupX pg) = (l1 ++ Mx.mk mc' x.a os' :: l2).map (tupX pg) := by
    rw [List.map_append, List.map_append, List.map_cons, List.map_cons]
    show _ ++ tupM pg x.mc x.a :: _ = _ ++ tupM pg mc' x.a :: _
    rw [ht]
  rw [ex] at H
  refine ⟨?_, mm, by rw [List.map_append, List.map_cons]; exact I, fun y hy => ?_, by have := W.kl; omega, by have := W.xl; simp at this ⊢; omega⟩
  · rw [flat_app, flat_cons]
    exact H.perm (foc_perm (C := [])).symm
  · simp only [List.mem_append, List.mem_cons] at hy
    rcases hy with hy | rfl | hy
    · exact W.ob y (by simp [hy])
    · exact o
    · exact W.ob y (by simp [hy])
theorem W2.gone {M' : AH} {kvs' : List (List AK × AV)} {w' : Stk.Wd} {rr' : Bool → Nat} {S' : Bool → List Int} {loose' : List Int} {os' : List (Nat × AO)} {ml' : Nat} (W : W2 M s c m d sd lo hl ml acc kvs pg rr S loose w (l1 ++ x :: l2) T)
    (H : Hs M' s c ((ml', .lst ((l1 ++ l2).map (tupX pg))) :: (MD m d (acc + 1) kvs' ++ os' ++ LO pg sd lo rr' S' loose' ((hl, hdsO pg) :: (ml, .lst ((l1 ++ x :: l2).map (tupX pg))) :: (flat l1 ++ flat l2))))) (mm : Mm pg kvs' w') (kl : kvs'.length ≤ kvs.length + 1)
    (I : Stk.Inv pg w' S' loose' (l1.map (·.mc) ++ l2.map (·.mc))) : W2 M' s c m d sd lo hl ml' (acc + 1) kvs' pg rr' S' loose' w' (l1 ++ l2) (T + 1) := by
  refine ⟨?_, mm, by rw [List.map_append]; exact I, fun y hy => ?_, by have := W.kl; omega, by have := W.xl; simp at this ⊢; omega⟩
  · rw [flat_app]
    have H1 : Hs M' s c (os' ++ (ml, .lst ((l1 ++ x :: l2).map (tupX pg))) :: (MD m d (acc + 1) kvs' ++ LO pg sd lo rr' S' loose' ((hl, hdsO pg) :: (ml', .lst ((l1 ++ l2).map (tupX pg))) :: (flat l1 ++ flat l2)))) := by
      refine H.perm ?_
      classical
      refine List.perm_iff_count.mpr fun q => ?_
      simp only [List.count_append, List.count_cons]
      omega
    exact (H1.sub (List.sublist_append_right _ _)).drop
  · exact W.ob y (by simp only [List.mem_append, List.mem_cons] at hy ⊢; rcases hy with hy | hy <;> simp [hy])
theorem bf_perm {b : Nat × AO} : (A ++ LO pg sd lo rr S loose (b :: L)).Perm (b :: (A ++ LO pg sd lo rr S loose L)) := by
  classical
  refine List.perm_iff_count.mpr fun q => ?_
  simp only [List.count_append, List.count_cons]
  omega
end
end Sy
namespace Sy
open PySem L2
open Stk (HV tag kd tp Lk Mch setS)
theorem wp_free_cell {M : AH} {i : Int} {Q : AV × AH → Prop} (k : Q (.tup [.str "free", .int i], M)) : wpO (m_free_cell [.int i] M) Q := by
  unfold m_free_cell
  rw [w_call]
  refine ⟨rfl, ?_⟩
  unfold a_free_cell
  (try push_cast [])
  exact k
def rr2 (a b : Nat) : Bool → Nat := fun h => if h = true then b else a
theorem mer_stk {pg : Bool} {a b : Nat} : putM (putM [] (hk pg false) (.ref a)) (hk pg true) (.ref b) = stkD pg (rr2 a b) := by
  have ne : hk pg false ≠ hk pg true := fun e => by cases hk_inj.mp e
  simp [putM, stkD, rr2, ne]
theorem perm8 {α : Type} {a b c d e f g h : α} : List.Perm [h, g, e, d, c, b, f, a] [a, b, c, d, e, f, g, h] := by
  classical
  refine List.perm_iff_count.mpr fun q => ?_
  simp only [List.count_cons]
  omega
theorem law_true (ns : List Int) (hl : ns.length ≤ 63) : ∃ M', m_law [.ro (ns.map .int)] ⟨fun _ => none, 0⟩ = some (.bl true, M') := by
  suffices h : wpO (m_law [.ro (ns.map .int)] ⟨fun _ => none, 0⟩) (fun p => p.1 = .bl true) by
    obtain ⟨⟨v, M'⟩, e, q⟩ := h
    have q : v = .bl true := q
    subst q
    exact ⟨M', e⟩
  generalize hM0 : (⟨fun _ => none, 0⟩ : AH) = M0
  unfold m_law
  rw [w_call]
  refine ⟨rfl, ?_⟩
  unfold a_law
  (try push_cast [])
  refine wp_state hl fun s c M1 h1 f1 g1 g1' => ?_
  have H1 := (Hs.start h1).new (.ins "Memory" [])
  (try push_cast [])
  refine wp_mem_init (m := M1.next) (by rw [get_new, sel_self]) (Nat.lt_succ_self _) ?_
  have H2 := ((H1.set0 (.ins "Memory" [("accesses", .int 0)])).new (.dT []))
  have H3 := Hs.set (L1 := [(_, .dT [])]) H2 (.ins "Memory" (memF 0 (M1.next + 1)))
  generalize eM : M1.next = m at *
  have e2 : (((M1.new (.ins "Memory" [])).set m (.ins "Memory" [("accesses", .int 0)])).next) = m + 1 := by rw [next_set, next_new, eM]
  have e2' : (M1.new (.ins "Memory" [])).next = m + 1 := by rw [next_new, eM]
  rw [e2] at H3
  rw [e2']
  generalize ((((M1.new (.ins "Memory" [])).set m (.ins "Memory" [("accesses", .int 0)])).new (.dT [])).set m (.ins "Memory" (memF 0 (m + 1)))) = M3 at *
  clear H1 H2 e2 e2'
  (try push_cast [])
  refine wp_free_cell ?_
  (try push_cast [])
  refine wp_free_cell ?_
  (try push_cast [])
  have H4 := H3.new (.lst [.tup [.str "pages"], .tup [.str "free", .int 1]])
  have e4 := H4.get (n := M3.next) (o := .lst [.tup [.str "pages"], .tup [.str "free", .int 1]]) List.mem_cons_self
  generalize M3.next = q3 at *
  generalize M3.new (.lst [.tup [.str "pages"], .tup [.str "free", .int 1]]) = M4 at *
  refine wp_take H4.st (by decide) fun r M5 a5 b5 s5 f5 g5 => ?_
  have H5 := H4.drawn s5 f5 g5
  have e5 := H5.get (n := q3) (o := .lst [.tup [.str "pages"], .tup [.str "free", .int 1]]) List.mem_cons_self
  obtain ⟨pg, ev⟩ : ∃ pg, atI [AV.tup [.str "pages"], .tup [.str "free", .int 1]] r = some (.tup (hkA pg true)) := by
    obtain rfl | rfl : r = 0 ∨ r = 1 := by omega
    · exact ⟨true, atI_0⟩
    · exact ⟨false, atI_1⟩
  replace H5 := H5.drop
  have e0 : AV.tup [.str "free", .int 0] = .tup (hkA pg false) := rfl
  (try push_cast [e5, ev, e0])
  have H6 := H5.new (hdsO pg)
  have e6 := H6.get (n := M5.next) (o := hdsO pg) List.mem_cons_self
  have l6 := H6.lt (M5.next, hdsO pg) List.mem_cons_self
  have n6 : (M5.new (hdsO pg)).next = M5.next + 1 := rfl
  generalize M5.next = hd at *
  generalize M5.new (hdsO pg) = M6 at *
  (try push_cast [e6, sel_lt l6, sel_lt (Nat.lt_succ_of_lt l6), sel_lt (Nat.lt_succ_of_lt (Nat.lt_succ_of_lt l6)), hk_of, mer_stk])
  have H7 := ((H6.new (.dT [])).new (.lst [])).new (.lst [])
  have H8 := Hs.set (L1 := [(_, .lst []), (_, .lst [])]) H7 (.dT (stkD pg (rr2 (hd + 1 + 1) (hd + 1 + 1 + 1))))
  simp only [next_new, n6] at H8
  rw [n6] at *
  generalize (((M6.new (.dT [])).new (.lst [])).new (.lst [])).set (hd + 1) (.dT (stkD pg (rr2 (hd + 1 + 1) (hd + 1 + 1 + 1)))) = M8 at *
  refine wp_take H8.st (by decide) fun r9 M9 a9 b9 s9 f9 g9 => ?_
  have H9 := H8.drawn s9 f9 g9
  have em : r9 + 1 = 1 + r9 := by omega
  (try push_cast [])
  refine ⟨⟨by omega, by omega⟩, ?_⟩
  have hN : (1 + r9).toNat ≤ 9 := by omega
  generalize (1 + r9).toNat = N at *
  refine wp_lcp (fun v => v) (by rw [rngL_len]; omega) (fun _ => rfl) (fun x hx acc Q q => ?_) ?_
  · (try push_cast [])
    exact q
  rw [List.map_id']
  have eN : rngL N = ((List.range N).map fun k : Nat => (k : Int)).map AV.int := by rw [List.map_map]; rfl
  rw [eN]
  have H10 := H9.new (.lst (((List.range N).map fun k : Nat => (k : Int)).map AV.int))
  have n10 : (M9.new (.lst (((List.range N).map fun k : Nat => (k : Int)).map AV.int))).next = M9.next + 1 := rfl
  generalize M9.next = lo at *
  generalize M9.new (.lst (((List.range N).map fun k : Nat => (k : Int)).map AV.int)) = M10 at *
  (try push_cast [])
  have H11 := H10.new (.lst [])
  generalize M10.next = ml0 at *
  generalize M10.new (.lst []) = M11 at *
  refine wp_take H11.st (by decide) fun turns M12 a12 b12 s12 f12 g12 => ?_
  have H12 := H11.drawn s12 f12 g12
  (try push_cast [])
  refine ⟨⟨by omega, by omega⟩, ?_⟩
  have W0 : W2 M12 s c m (m + 1) (hd + 1) lo hd ml0 0 [] pg (rr2 (hd + 1 + 1) (hd + 1 + 1 + 1)) (fun _ => []) ((List.range N).map fun k : Nat => (k : Int)) ⟨fun _ => none, fun _ _ => 0⟩ [] 0 := by
    refine ⟨H12.perm ?_, Mm.start, Stk.Inv.start hN, fun x hx => (nomatch hx), Nat.le_refl _, Nat.zero_le _⟩
    exact perm8
  have hT : turns.toNat ≤ 151 := by omega
  clear H12 H11 H10 H9 H8 H7 H6 H5 H4 H3
  refine wp_for (fun i σ M => ∃ acc kvs rr S loose w xs ml v8 v9 v10 v11 v12 v13 v14, W2 M s c m (m + 1) (hd + 1) lo hd ml acc kvs pg rr S loose w xs i ∧ σ = [some (.ro (ns.map .int)), some (.ref s), some (.ref m), some (.ref hd), some (.ref (hd + 1)), some (.int (1 + r9)), some (.ref lo), some (.ref ml), v8, v9, v10, v11, v12, v13, v14])
    ⟨_, _, _, _, _, _, _, _, _, _, _, _, _, _, _, W0, rfl⟩ ?_ ?_
  · rintro i x σ M hx ⟨acc, kvs, rr, S, loose, w, xs, ml, v8, v9, v10, v11, v12, v13, v14, W, rfl⟩
    obtain ⟨hi, rfl⟩ := rngL_get hx
    refine ⟨rfl, ?_⟩
    have hml := W.hs.get (n := ml) (o := .lst (xs.map (tupX pg))) (by simp)
    (try push_cast [fLen_l hml])
    refine wp_take W.hs.st (by decide) fun r1 M1 a1 b1 s1 f1 g1 => ?_
    have W1 := W.drawn s1 f1 g1
    clear W hml
    (try push_cast [])
    refine br_join (fun p => ∃ M' loose' xs', p = (.nx, [some (.ro (ns.map .int)), some (.ref s), some (.ref m), some (.ref hd), some (.ref (hd + 1)), some (.int (1 + r9)), some (.ref lo), some (.ref ml), some (.int (i : Nat)), v9, v10, v11, v12, v13, v14], M') ∧
      W2 M' s c m (m + 1) (hd + 1) lo hd ml acc kvs pg rr S loose' w xs' i ∧ xs' ≠ []) ?_ (fun z => ?_) (fun z => ?_)
    · rintro _ ⟨M2, loose, xs, rfl, W, hne⟩
      have hml := W.hs.get (n := ml) (o := .lst (xs.map (tupX pg))) (by simp)
      (try push_cast [fLen_l hml])
      have hpos : 0 < xs.length := List.length_pos_iff.mpr hne
      have hxl := W.xl
      refine wp_take W.hs.st (by rw [List.length_map]; omega) fun j M3 a3 b3 s3 f3 g3 => ?_
      have W3 := W.drawn s3 f3 g3
      clear W hml
      rw [List.length_map] at b3
      obtain ⟨n, rfl⟩ : ∃ n : Nat, j = (n : Int) := ⟨j.toNat, (Int.toNat_of_nonneg a3).symm⟩
      have hn : n < xs.length := by omega
      obtain ⟨l1, y, l2, rfl, hl1⟩ : ∃ l1 y l2, xs = l1 ++ y :: l2 ∧ l1.length = n :=
        ⟨xs.take n, xs[n], xs.drop (n + 1), by rw [← List.drop_eq_getElem_cons hn, List.take_append_drop], by rw [List.length_take]; omega⟩
      have hml := W3.hs.get (n := ml) (o := .lst ((l1 ++ y :: l2).map (tupX pg))) (by simp)
      have hat : atI ((l1 ++ y :: l2).map (tupX pg)) (n : Int) = some (tupM pg y.mc y.a) := L2.atI_nat (by rw [List.getElem?_map, ← hl1]; simp [tupX])
      (try push_cast [hml, hat, tupM, str_eq])
      have o := W3.ob y (by simp)
      obtain ⟨cn, fs, hos, hst, hho, hdn, hk⟩ := o.kind
      have I := W3.inv
      rw [List.map_append, List.map_cons] at I
      have F := W3.foc
      have FA : (y.a, AO.ins cn fs) ∈ MD m (m + 1) acc kvs ++ y.os ++ LO pg (hd + 1) lo rr S loose ((hd, hdsO pg) :: (ml, .lst ((l1 ++ y :: l2).map (tupX pg))) :: (flat l1 ++ flat l2)) := List.mem_append_left _ (List.mem_append_right _ hos)
      have FN := F.new (.lst [])
      have eaN := FN.get (List.mem_cons_of_mem _ FA)
      have emN := FN.get (n := m) (o := .ins "Memory" (memF acc (m + 1))) (by simp)
      generalize M3.next = bf at *
      generalize M3.new (.lst []) = M4 at *
      refine br_join (fun p => ∃ M' bf', p = (.nx, [some (.ro (ns.map .int)), some (.ref s), some (.ref m), some (.ref hd), some (.ref (hd + 1)), some (.int (1 + r9)), some (.ref lo), some (.ref ml), some (.int (i : Nat)), some (.int (n : Nat)), some (.tup [.str (wordM y.mc), .tup (hkA pg (headM y.mc)), .ref y.a, .int (itemM y.mc)]), some (.ref bf'), v12, v13, v14], M') ∧
        Hs M' s c ((bf', .lst ((heldM y.mc).map .int)) :: (MD m (m + 1) acc kvs ++ y.os ++ LO pg (hd + 1) lo rr S loose ((hd, hdsO pg) :: (ml, .lst ((l1 ++ y :: l2).map (tupX pg))) :: (flat l1 ++ flat l2))))) ?_ (fun z => ?_) (fun z => ?_)
      · rintro _ ⟨M5, bf', rfl, H5⟩
        clear FN eaN emN F FA
        have FA := H5.get (List.mem_cons_of_mem _ (List.mem_append_left _ (List.mem_append_right _ hos)))
        have emN := H5.get (n := m) (o := .ins "Memory" (memF acc (m + 1))) (by simp)
        have ef : (if "Pop" = cn then some m_Pop_step else if "Push" = cn then some m_Push_step else if "TakeAll" = cn then some m_TakeAll_step else none) = some (stepF y.mc) := by
          rcases hk with ⟨_, rfl, e, _⟩ | ⟨_, rfl, e, _⟩ | ⟨_, rfl, e⟩
          all_goals (rw [e]; simp)
        (try push_cast [emN, FA, hst, ef])
        refine wp_mstep (H5.perm bf_perm) o W3.mm I (by have := W3.kl; omega) fun M6 em6 aft => ?_
        have ac : acc + 1 = acc + 1 := rfl
        (try push_cast [em6])
        refine aft _ fun M7 R => ?_
        obtain ⟨kvs', w', rr', S', loose', os', H7, mm', kl', R⟩ := R
        have hml7 := H7.get (n := ml) (o := .lst ((l1 ++ y :: l2).map (tupX pg))) (by simp)
        have eh7 := H7.get (n := hd) (o := hdsO pg) (by simp)
        rcases R with ⟨mc', o', ht', I'⟩ | ⟨⟨cn', fs', hf', hd'⟩, I'⟩
        · obtain ⟨cn', fs', hos', _, _, hdn', _⟩ := o'.kind
          have e7 := H7.get (List.mem_append_left _ (List.mem_append_right _ hos'))
          (try push_cast [e7, hdn', eh7])
          refine wp_heads (W3.back H7 mm' kl' o' ht' I') fun M8 v W8 => ?_
          exact ⟨_, _, _, _, _, _, _, _, _, _, _, _, _, _, _, W8, rfl⟩
        · have e7 := H7.get (List.mem_append_left _ (List.mem_append_right _ hf'))
          have ml7 := H7.lt (ml, .lst ((l1 ++ y :: l2).map (tupX pg))) (by simp)
          have len : ((l1 ++ y :: l2).map (tupX pg)).length = l1.length + (l2.length + 1) := by simp
          have ec1 : cutA ((l1 ++ y :: l2).map (tupX pg)) none (some (n : Int)) = l1.map (tupX pg) := by
            rw [cut_to (by rw [len]; omega), List.map_append, ← hl1]
            rw [List.take_append_of_le_length (by rw [List.length_map]; exact Nat.le_refl _)]
            exact List.take_of_length_le (by rw [List.length_map]; exact Nat.le_refl _)
          have ec2 : cutA ((l1 ++ y :: l2).map (tupX pg)) (some ((n : Int) + 1)) none = l2.map (tupX pg) := by
            have e : (n : Int) + 1 = ((n + 1 : Nat) : Int) := rfl
            rw [e, cut_from (by rw [len]; omega), List.map_append, ← hl1]
            rw [show l1.length + 1 = (l1.map (tupX pg)).length + 1 by rw [List.length_map], List.drop_append, Nat.add_sub_cancel_left]
            rw [List.drop_of_length_le (by omega)]
            rfl
          have H8 := (H7.new (.lst (l1.map (tupX pg)))).new (.lst (l2.map (tupX pg)))
          have n8 : (M7.new (.lst (l1.map (tupX pg)))).next = M7.next + 1 := rfl
          rw [n8] at H8
          (try push_cast [e7, hd', hml7, ec1, ec2, sel_lt ml7])
          generalize (M7.new (.lst (l1.map (tupX pg)))).new (.lst (l2.map (tupX pg))) = M8 at *
          generalize M7.next = q7 at *
          have ea := oAdd_l (H8.get (n := q7) (o := .lst (l1.map (tupX pg))) (by simp)) (H8.get (n := q7 + 1) (o := .lst (l2.map (tupX pg))) (by simp)) (by rw [List.length_map, List.length_map]; simp at hxl; omega)
          rw [← List.map_append] at ea
          have H9 := H8.new (.lst ((l1 ++ l2).map (tupX pg)))
          generalize M8.new (.lst ((l1 ++ l2).map (tupX pg))) = M9 at *
          have eh9 := H9.get (n := hd) (o := hdsO pg) (by simp)
          (try push_cast [ea, eh9])
          refine wp_heads (W3.gone (H9.sub (List.Sublist.cons₂ _ ((List.sublist_cons_self _ _).trans (List.sublist_cons_self _ _)))) mm' kl' I') fun M10 v W10 => ?_
          exact ⟨_, _, _, _, _, _, _, _, _, _, _, _, _, _, _, W10, rfl⟩
      · rw [decide_eq_true_eq] at z
        rcases hk with ⟨e, _⟩ | ⟨e, _⟩ | ⟨_, rfl, _⟩
        · rw [e] at z; simp at z
        · rw [e] at z; simp at z
        · (try push_cast [eaN, hho])
          refine wp_hold (mc := y.mc) (FN.drop.cast rfl) o z W3.mm I fun q5 M5 H5 => ?_
          (try push_cast [])
          exact ⟨_, _, rfl, H5⟩
      · rw [decide_eq_false_iff_not] at z
        have eh : heldM y.mc = [] := by
          rcases hk with ⟨_, _, _, e⟩ | ⟨_, _, _, e⟩ | ⟨e, _⟩
          · exact e
          · exact e
          · exact absurd e z
        (try push_cast [])
        exact ⟨_, _, rfl, by rw [eh]; exact FN⟩
    · rw [decide_eq_true_eq, List.length_map] at z
      have hml := W1.hs.get (n := ml) (o := .lst (xs.map (tupX pg))) (by simp)
      (try push_cast [hml])
      refine wp_new W1.toNew W1.inv (Nat.lt_of_le_of_lt W1.inv.lenL (by decide)) fun M' mc a os loose' H' o I' _ => ?_
      have hm2 := H'.get (n := ml) (o := .lst (xs.map (tupX pg))) (by simp)
      have ea := mAppend_l (y := tupM pg mc a) hm2 (by rw [List.length_map]; omega)
      have eA : xs.map (tupX pg) ++ [tupM pg mc a] = (xs ++ [Mx.mk mc a os]).map (tupX pg) := by rw [List.map_append]; rfl
      rw [eA] at ea
      have H2 := newL_set (ts' := (xs ++ [Mx.mk mc a os]).map (tupX pg)) H'
      (try push_cast [ea])
      exact ⟨_, loose', xs ++ [Mx.mk mc a os], rfl, W1.add H2 o I' (by omega), by simp⟩
    · rw [decide_eq_false_iff_not, List.length_map] at z
      (try push_cast [])
      exact ⟨M1, loose, xs, rfl, W1, fun e => by rw [e] at z; simp at z; omega⟩
  · rintro σ M ⟨acc, kvs, rr, S, loose, w, xs, ml, v8, v9, v10, v11, v12, v13, v14, W, rfl⟩
    refine ⟨rfl, ?_⟩
    (try push_cast [])
end Sy
namespace Sy
open PySem L2 PySem.Spec PyProof.Rows
structure Ad where
  f_free_cell : Addr
  d_free_cell : FuncData
  f_next_cell : Addr
  d_next_cell : FuncData
  f_head_value : Addr
  d_head_value : FuncData
  f_Pop_init : Addr
  d_Pop_init : FuncData
  f_Pop_topmost : Addr
  d_Pop_topmost : FuncData
  f_Push_init : Addr
  d_Push_init : FuncData
  f_TakeAll_init : Addr
  d_TakeAll_init : FuncData
  f_Memory_init : Addr
  d_Memory_init : FuncData
  f_Memory_peek : Addr
  d_Memory_peek : FuncData
  f_Memory_set_up : Addr
  d_Memory_set_up : FuncData
  f_law_state : Addr
  d_law_state : FuncData
  f_law_take : Addr
  d_law_take : FuncData
  f_law_new : Addr
  d_law_new : FuncData
  f_items_from : Addr
  d_items_from : FuncData
  f_items_of : Addr
  d_items_of : FuncData
  f_TakeAll_holding : Addr
  d_TakeAll_holding : FuncData
  f_Memory_read : Addr
  d_Memory_read : FuncData
  f_Memory_write : Addr
  d_Memory_write : FuncData
  f_Memory_swap : Addr
  d_Memory_swap : FuncData
  f_law_after : Addr
  d_law_after : FuncData
  f_change_head : Addr
  d_change_head : FuncData
  f_Pop_read_head : Addr
  d_Pop_read_head : FuncData
  f_Pop_swap_head : Addr
  d_Pop_swap_head : FuncData
  f_Push_write_cell : Addr
  d_Push_write_cell : FuncData
  f_Push_swap_head : Addr
  d_Push_swap_head : FuncData
  f_TakeAll_read_head : Addr
  d_TakeAll_read_head : FuncData
  f_TakeAll_swap_head : Addr
  d_TakeAll_swap_head : FuncData
  f_TakeAll_read_cell : Addr
  d_TakeAll_read_cell : FuncData
  f_Pop_step : Addr
  d_Pop_step : FuncData
  f_Push_step : Addr
  d_Push_step : FuncData
  f_TakeAll_step : Addr
  d_TakeAll_step : FuncData
  f_law : Addr
  d_law : FuncData
structure Txt (K : PySem.W.Frag) (mg : Str → Option Value) (cl : String → Addr) (A : Ad) : Prop where
  c_Pop : Cls K (cl "Pop")
  gC_Pop : mg "Pop" = some (.ref (cl "Pop"))
  mk_Pop : Mk K (cl "Pop") A.f_Pop_init
  c_Push : Cls K (cl "Push")
  gC_Push : mg "Push" = some (.ref (cl "Push"))
  mk_Push : Mk K (cl "Push") A.f_Push_init
  c_TakeAll : Cls K (cl "TakeAll")
  gC_TakeAll : mg "TakeAll" = some (.ref (cl "TakeAll"))
  mk_TakeAll : Mk K (cl "TakeAll") A.f_TakeAll_init
  c_Memory : Cls K (cl "Memory")
  gC_Memory : mg "Memory" = some (.ref (cl "Memory"))
  mk_Memory : Mk K (cl "Memory") A.f_Memory_init
  fo_head : ∀ c, c ∈ cs_head → NoAttr K (cl c) "head"
  fo_done : ∀ c, c ∈ cs_done → NoAttr K (cl c) "done"
  fo_result : ∀ c, c ∈ cs_result → NoAttr K (cl c) "result"
  fo_raw : ∀ c, c ∈ cs_raw → NoAttr K (cl c) "raw"
  fo_below : ∀ c, c ∈ cs_below → NoAttr K (cl c) "below"
  fo_stage : ∀ c, c ∈ cs_stage → NoAttr K (cl c) "stage"
  fo_item : ∀ c, c ∈ cs_item → NoAttr K (cl c) "item"
  fo_taken : ∀ c, c ∈ cs_taken → NoAttr K (cl c) "taken"
  fo_rest : ∀ c, c ∈ cs_rest → NoAttr K (cl c) "rest"
  fo_accesses : ∀ c, c ∈ cs_accesses → NoAttr K (cl c) "accesses"
  fo_cells : ∀ c, c ∈ cs_cells → NoAttr K (cl c) "cells"
  F_free_cell : Fun K "free_cell" "free_cell" s_free_cell A.f_free_cell A.d_free_cell
  b_free_cell : Binds K A.d_free_cell ["size"] []
  g_free_cell : mg "free_cell" = some (.ref A.f_free_cell)
  F_next_cell : Fun K "next_cell" "next_cell" s_next_cell A.f_next_cell A.d_next_cell
  b_next_cell : Binds K A.d_next_cell ["head", "item"] []
  g_next_cell : mg "next_cell" = some (.ref A.f_next_cell)
  F_head_value : Fun K "head_value" "head_value" s_head_value A.f_head_value A.d_head_value
  b_head_value : Binds K A.d_head_value ["value"] []
  g_head_value : mg "head_value" = some (.ref A.f_head_value)
  F_Pop_init : Fun K "__init__" "Pop.__init__" s_Pop_init A.f_Pop_init A.d_Pop_init
  b_Pop_init : Binds K A.d_Pop_init ["self", "head"] []
  F_Pop_topmost : Fun K "topmost" "Pop.topmost" s_Pop_topmost A.f_Pop_topmost A.d_Pop_topmost
  b_Pop_topmost : Binds K A.d_Pop_topmost ["self"] []
  M_Pop_topmost : Meth K (cl "Pop") "topmost" A.f_Pop_topmost
  F_Push_init : Fun K "__init__" "Push.__init__" s_Push_init A.f_Push_init A.d_Push_init
  b_Push_init : Binds K A.d_Push_init ["self", "head", "item"] []
  F_TakeAll_init : Fun K "__init__" "TakeAll.__init__" s_TakeAll_init A.f_TakeAll_init A.d_TakeAll_init
  b_TakeAll_init : Binds K A.d_TakeAll_init ["self", "head"] []
  F_Memory_init : Fun K "__init__" "Memory.__init__" s_Memory_init A.f_Memory_init A.d_Memory_init
  b_Memory_init : Binds K A.d_Memory_init ["self"] []
  F_Memory_peek : Fun K "peek" "Memory.peek" s_Memory_peek A.f_Memory_peek A.d_Memory_peek
  b_Memory_peek : Binds K A.d_Memory_peek ["self", "cell"] []
  M_Memory_peek : Meth K (cl "Memory") "peek" A.f_Memory_peek
  F_Memory_set_up : Fun K "set_up" "Memory.set_up" s_Memory_set_up A.f_Memory_set_up A.d_Memory_set_up
  b_Memory_set_up : Binds K A.d_Memory_set_up ["self", "cell", "value"] []
  M_Memory_set_up : Meth K (cl "Memory") "set_up" A.f_Memory_set_up
  F_law_state : Fun K "_law_state" "_law_state" s_law_state A.f_law_state A.d_law_state
  b_law_state : Binds K A.d_law_state ["script"] []
  g_law_state : mg "_law_state" = some (.ref A.f_law_state)
  F_law_take : Fun K "_law_take" "_law_take" s_law_take A.f_law_take A.d_law_take
  b_law_take : Binds K A.d_law_take ["state", "most"] []
  g_law_take : mg "_law_take" = some (.ref A.f_law_take)
  F_law_new : Fun K "_law_new" "_law_new" s_law_new A.f_law_new A.d_law_new
  b_law_new : Binds K A.d_law_new ["state", "loose", "heads"] []
  g_law_new : mg "_law_new" = some (.ref A.f_law_new)
  F_items_from : Fun K "items_from" "items_from" s_items_from A.f_items_from A.d_items_from
  b_items_from : Binds K A.d_items_from ["memory", "head", "top"] []
  g_items_from : mg "items_from" = some (.ref A.f_items_from)
  F_items_of : Fun K "items_of" "items_of" s_items_of A.f_items_of A.d_items_of
  b_items_of : Binds K A.d_items_of ["memory", "head"] []
  g_items_of : mg "items_of" = some (.ref A.f_items_of)
  F_TakeAll_holding : Fun K "holding" "TakeAll.holding" s_TakeAll_holding A.f_TakeAll_holding A.d_TakeAll_holding
  b_TakeAll_holding : Binds K A.d_TakeAll_holding ["self", "memory"] []
  M_TakeAll_holding : Meth K (cl "TakeAll") "holding" A.f_TakeAll_holding
  F_Memory_read : Fun K "read" "Memory.read" s_Memory_read A.f_Memory_read A.d_Memory_read
  b_Memory_read : Binds K A.d_Memory_read ["self", "cell"] []
  M_Memory_read : Meth K (cl "Memory") "read" A.f_Memory_read
  F_Memory_write : Fun K "write" "Memory.write" s_Memory_write A.f_Memory_write A.d_Memory_write
  b_Memory_write : Binds K A.d_Memory_write ["self", "cell", "value"] []
  M_Memory_write : Meth K (cl "Memory") "write" A.f_Memory_write
  F_Memory_swap : Fun K "swap" "Memory.swap" s_Memory_swap A.f_Memory_swap A.d_Memory_swap
  b_Memory_swap : Binds K A.d_Memory_swap ["self", "cell", "old", "new"] []
  M_Memory_swap : Meth K (cl "Memory") "swap" A.f_Memory_swap
  F_law_after : Fun K "_law_after" "_law_after" s_law_after A.f_law_after A.d_law_after
  b_law_after : Binds K A.d_law_after ["machine", "before", "stacks", "loose", "memory"] []
  g_law_after : mg "_law_after" = some (.ref A.f_law_after)
  F_change_head : Fun K "change_head" "change_head" s_change_head A.f_change_head A.d_change_head
  b_change_head : Binds K A.d_change_head ["memory", "head", "raw", "top"] []
  g_change_head : mg "change_head" = some (.ref A.f_change_head)
  F_Pop_read_head : Fun K "read_head" "Pop.read_head" s_Pop_read_head A.f_Pop_read_head A.d_Pop_read_head
  b_Pop_read_head : Binds K A.d_Pop_read_head ["self", "memory"] []
  M_Pop_read_head : Meth K (cl "Pop") "read_head" A.f_Pop_read_head
  F_Pop_swap_head : Fun K "swap_head" "Pop.swap_head" s_Pop_swap_head A.f_Pop_swap_head A.d_Pop_swap_head
  b_Pop_swap_head : Binds K A.d_Pop_swap_head ["self", "memory"] []
  M_Pop_swap_head : Meth K (cl "Pop") "swap_head" A.f_Pop_swap_head
  F_Push_write_cell : Fun K "write_cell" "Push.write_cell" s_Push_write_cell A.f_Push_write_cell A.d_Push_write_cell
  b_Push_write_cell : Binds K A.d_Push_write_cell ["self", "memory"] []
  M_Push_write_cell : Meth K (cl "Push") "write_cell" A.f_Push_write_cell
  F_Push_swap_head : Fun K "swap_head" "Push.swap_head" s_Push_swap_head A.f_Push_swap_head A.d_Push_swap_head
  b_Push_swap_head : Binds K A.d_Push_swap_head ["self", "memory"] []
  M_Push_swap_head : Meth K (cl "Push") "swap_head" A.f_Push_swap_head
  F_TakeAll_read_head : Fun K "read_head" "TakeAll.read_head" s_TakeAll_read_head A.f_TakeAll_read_head A.d_TakeAll_read_head
  b_TakeAll_read_head : Binds K A.d_TakeAll_read_head ["self", "memory"] []
  M_TakeAll_read_head : Meth K (cl "TakeAll") "read_head" A.f_TakeAll_read_head
  F_TakeAll_swap_head : Fun K "swap_head" "TakeAll.swap_head" s_TakeAll_swap_head A.f_TakeAll_swap_head A.d_TakeAll_swap_head
  b_TakeAll_swap_head : Binds K A.d_TakeAll_swap_head ["self", "memory"] []
  M_TakeAll_swap_head : Meth K (cl "TakeAll") "swap_head" A.f_TakeAll_swap_head
  F_TakeAll_read_cell : Fun K "read_cell" "TakeAll.read_cell" s_TakeAll_read_cell A.f_TakeAll_read_cell A.d_TakeAll_read_cell
  b_TakeAll_read_cell : Binds K A.d_TakeAll_read_cell ["self", "memory"] []
  M_TakeAll_read_cell : Meth K (cl "TakeAll") "read_cell" A.f_TakeAll_read_cell
  F_Pop_step : Fun K "step" "Pop.step" s_Pop_step A.f_Pop_step A.d_Pop_step
  b_Pop_step : Binds K A.d_Pop_step ["self", "memory"] []
  M_Pop_step : Meth K (cl "Pop") "step" A.f_Pop_step
  F_Push_step : Fun K "step" "Push.step" s_Push_step A.f_Push_step A.d_Push_step
  b_Push_step : Binds K A.d_Push_step ["self", "memory"] []
  M_Push_step : Meth K (cl "Push") "step" A.f_Push_step
  F_TakeAll_step : Fun K "step" "TakeAll.step" s_TakeAll_step A.f_TakeAll_step A.d_TakeAll_step
  b_TakeAll_step : Binds K A.d_TakeAll_step ["self", "memory"] []
  M_TakeAll_step : Meth K (cl "TakeAll") "step" A.f_TakeAll_step
  F_law : Fun K "law" "law" s_law A.f_law A.d_law
  b_law : Binds K A.d_law ["script"] []
  g_law : mg "law" = some (.ref A.f_law)
  z_len : mg "len" = none
  z_abs : mg "abs" = none
  z_int : mg "int" = none
  z_range : mg "range" = none
  z_set : mg "set" = none
  gc_PAGES : GlTup K mg "PAGES" [(.str "pages")]
  gc_READ_HEAD : GlV mg "READ_HEAD" (.str (Str.ofString "read the head"))
  gc_READ_CELL : GlV mg "READ_CELL" (.str (Str.ofString "read the cell of an item"))
  gc_WRITE_CELL : GlV mg "WRITE_CELL" (.str (Str.ofString "write the cell of the item"))
  gc_SWAP_HEAD : GlV mg "SWAP_HEAD" (.str (Str.ofString "swap the head"))
section
variable {P : Program} {w : World} {K : PySem.W.Frag} {mg : Str → Option Value} {base : Heap} {cl : String → Addr} {A : Ad}
theorem sc_free_cell : FnScope ["size"] ["size"] (defScope s_free_cell) := ⟨rfl, rfl, rfl, by decide +kernel, rfl, by decide +kernel, by decide +kernel⟩
theorem ok_free_cell (T : Txt K mg cl A) : FnOk P w K mg base CX0 1 A.f_free_cell A.d_free_cell ["size"] (spA K ⟨cl, P, w, none⟩ m_free_cell) :=
  fn_ok T.F_free_cell sc_free_cell fun cdv A' outer s H E hr => (as_one (as_ret (ae_tup (aa_cons ae_str (aa_cons (ae_var 0) aa_nil)))))
theorem sc_next_cell : FnScope ["head", "item"] ["head", "item"] (defScope s_next_cell) := ⟨rfl, rfl, rfl, by decide +kernel, rfl, by decide +kernel, by decide +kernel⟩
theorem ok_next_cell (T : Txt K mg cl A) : FnOk P w K mg base CX0 1 A.f_next_cell A.d_next_cell ["head", "item"] (spA K ⟨cl, P, w, none⟩ m_next_cell) :=
  fn_ok T.F_next_cell sc_next_cell fun cdv A' outer s H E hr => (as_cons (as_if (at_cmp (ac_eq hr.units) (ae_var 0) (ae_gT (by rfl) T.gc_PAGES) (nomark _)) (as_one (as_ret (ae_tup (aa_cons ae_str (aa_cons (ae_var 1) aa_nil))))) as_nil) (as_one (as_ret (ae_tup (aa_cons ae_str (aa_cons (ae_var 1) aa_nil))))))
theorem sc_head_value : FnScope ["value"] ["value"] (defScope s_head_value) := ⟨rfl, rfl, rfl, by decide +kernel, rfl, by decide +kernel, by decide +kernel⟩
theorem ok_head_value (T : Txt K mg cl A) : FnOk P w K mg base CX0 1 A.f_head_value A.d_head_value ["value"] (spA K ⟨cl, P, w, none⟩ m_head_value) :=
  fn_ok T.F_head_value sc_head_value fun cdv A' outer s H E hr => (as_cons (as_if (at_cmp (ac_eq hr.units) (ae_var 0) ae_int (nomark _)) (as_one (as_ret (ae_tup (aa_cons ae_int (aa_cons ae_int aa_nil))))) as_nil) (as_one (as_ret (ae_var 0))))
theorem sc_Pop_init : FnScope ["self", "head"] ["self", "head"] (defScope s_Pop_init) := ⟨rfl, rfl, rfl, by decide +kernel, rfl, by decide +kernel, by decide +kernel⟩
theorem ok_Pop_init (T : Txt K mg cl A) : FnOk P w K mg base CX0 1 A.f_Pop_init A.d_Pop_init ["self", "head"] (spA K ⟨cl, P, w, none⟩ m_Pop_init) :=
  fn_ok T.F_Pop_init sc_Pop_init fun cdv A' outer s H E hr => (as_cons (as_fld (f := "head") T.fo_head (ae_var 0) (ae_var 1)) (as_cons (as_fld (f := "done") T.fo_done (ae_var 0) ae_bl) (as_cons (as_fld (f := "result") T.fo_result (ae_var 0) ae_non) (as_cons (as_fld (f := "raw") T.fo_raw (ae_var 0) ae_non) (as_cons (as_fld (f := "below") T.fo_below (ae_var 0) ae_int) (as_one (as_fld (f := "stage") T.fo_stage (ae_var 0) (ae_gS (by rfl) T.gc_READ_HEAD))))))))
theorem sc_Pop_topmost : FnScope ["self", "top", "_"] ["self"] (defScope s_Pop_topmost) := ⟨rfl, rfl, rfl, by decide +kernel, rfl, by decide +kernel, by decide +kernel⟩
theorem ok_Pop_topmost (T : Txt K mg cl A) : FnOk P w K mg base CX0 2 A.f_Pop_topmost A.d_Pop_topmost ["self"] (spA K ⟨cl, P, w, none⟩ m_Pop_topmost) :=
  fn_ok T.F_Pop_topmost sc_Pop_topmost fun cdv A' outer s H E hr => (as_cons (as_asg (ae_call (ok_head_value T) (hr.mono (by decide)) (by rfl) T.g_head_value T.F_head_value.kp T.b_head_value (aa_cons (ae_fld (f := "raw") (ae_var 0)) aa_nil)) (ag_tup rfl (gs_cons (ag_name 1 sc_Pop_topmost.nd) (gs_cons (ag_name 2 sc_Pop_topmost.nd) gs_nil)))) (as_one (as_ret (ae_op ab_sub (ae_var 1) ae_int))))
theorem sc_Push_init : FnScope ["self", "head", "item"] ["self", "head", "item"] (defScope s_Push_init) := ⟨rfl, rfl, rfl, by decide +kernel, rfl, by decide +kernel, by decide +kernel⟩
theorem ok_Push_init (T : Txt K mg cl A) : FnOk P w K mg base CX0 1 A.f_Push_init A.d_Push_init ["self", "head", "item"] (spA K ⟨cl, P, w, none⟩ m_Push_init) :=
  fn_ok T.F_Push_init sc_Push_init fun cdv A' outer s H E hr => (as_cons (as_fld (f := "head") T.fo_head (ae_var 0) (ae_var 1)) (as_cons (as_fld (f := "item") T.fo_item (ae_var 0) (ae_var 2)) (as_cons (as_fld (f := "done") T.fo_done (ae_var 0) ae_bl) (as_cons (as_fld (f := "raw") T.fo_raw (ae_var 0) ae_non) (as_one (as_fld (f := "stage") T.fo_stage (ae_var 0) (ae_gS (by rfl) T.gc_READ_HEAD)))))))
theorem sc_TakeAll_init : FnScope ["self", "head"] ["self", "head"] (defScope s_TakeAll_init) := ⟨rfl, rfl, rfl, by decide +kernel, rfl, by decide +kernel, by decide +kernel⟩
theorem ok_TakeAll_init (T : Txt K mg cl A) : FnOk P w K mg base CX0 1 A.f_TakeAll_init A.d_TakeAll_init ["self", "head"] (spA K ⟨cl, P, w, none⟩ m_TakeAll_init) :=
  fn_ok T.F_TakeAll_init sc_TakeAll_init fun cdv A' outer s H E hr => (as_cons (as_fld (f := "head") T.fo_head (ae_var 0) (ae_var 1)) (as_cons (as_fld (f := "done") T.fo_done (ae_var 0) ae_bl) (as_cons (as_fld (f := "taken") T.fo_taken (ae_var 0) (ae_lst aa_nil)) (as_cons (as_fld (f := "raw") T.fo_raw (ae_var 0) ae_non) (as_cons (as_fld (f := "rest") T.fo_rest (ae_var 0) ae_int) (as_one (as_fld (f := "stage") T.fo_stage (ae_var 0) (ae_gS (by rfl) T.gc_READ_HEAD))))))))
theorem sc_Memory_init : FnScope ["self"] ["self"] (defScope s_Memory_init) := ⟨rfl, rfl, rfl, by decide +kernel, rfl, by decide +kernel, by decide +kernel⟩
theorem ok_Memory_init (T : Txt K mg cl A) : FnOk P w K mg base CX0 1 A.f_Memory_init A.d_Memory_init ["self"] (spA K ⟨cl, P, w, none⟩ m_Memory_init) :=
  fn_ok T.F_Memory_init sc_Memory_init fun cdv A' outer s H E hr => (as_cons (as_fld (f := "accesses") T.fo_accesses (ae_var 0) ae_int) (as_one (as_fld (f := "cells") T.fo_cells (ae_var 0) ae_dnewT)))
theorem sc_Memory_peek : FnScope ["self", "cell"] ["self", "cell"] (defScope s_Memory_peek) := ⟨rfl, rfl, rfl, by decide +kernel, rfl, by decide +kernel, by decide +kernel⟩
theorem ok_Memory_peek (T : Txt K mg cl A) : FnOk P w K mg base CX0 1 A.f_Memory_peek A.d_Memory_peek ["self", "cell"] (spA K ⟨cl, P, w, none⟩ m_Memory_peek) :=
  fn_ok T.F_Memory_peek sc_Memory_peek fun cdv A' outer s H E hr => (as_one (as_ret (ae_get2 (hu_of hr) (ae_fld (f := "cells") (ae_var 0)) (ae_var 1) ae_int ⟨rfl, rfl, rfl, rfl⟩)))
theorem sc_Memory_set_up : FnScope ["self", "cell", "value"] ["self", "cell", "value"] (defScope s_Memory_set_up) := ⟨rfl, rfl, rfl, by decide +kernel, rfl, by decide +kernel, by decide +kernel⟩
theorem ok_Memory_set_up (T : Txt K mg cl A) : FnOk P w K mg base CX0 1 A.f_Memory_set_up A.d_Memory_set_up ["self", "cell", "value"] (spA K ⟨cl, P, w, none⟩ m_Memory_set_up) :=
  fn_ok T.F_Memory_set_up sc_Memory_set_up fun cdv A' outer s H E hr => (as_one (as_sub (hu_of hr) (ae_fld (f := "cells") (ae_var 0)) (ae_var 1) (ae_var 2)))
theorem sc_law_state : FnScope ["script", "cells", "cell"] ["script"] (defScope s_law_state) := ⟨rfl, rfl, rfl, by decide +kernel, rfl, by decide +kernel, by decide +kernel⟩
theorem ok_law_state (T : Txt K mg cl A) : FnOk P w K mg base CX0 1 A.f_law_state A.d_law_state ["script"] (spA K ⟨cl, P, w, none⟩ m_law_state) :=
  fn_ok T.F_law_state sc_law_state fun cdv A' outer s H E hr => (as_cons (as_setLc 1 2 rfl sc_law_state.nd (sw_true rfl rfl rfl (by decide +kernel)) (ai_list (ae_sl (ae_var 0) ao_none (ao_some ae_int) (fun _ _ _ h1 h2 h3 => pe_slice sl_list h1 h2 h3))) (blkOk_by (own := [("cell", 2)]) (N := ["script", "cells", "cell"]) (sc := defScope s_law_state) (by decide +kernel)) (fun _ _ _ _ _ => (pg_name (i := 2) sc_law_state.nd rfl (Or.inl rfl))) (fun _ _ _ _ _ => aq_nil) (fun _ _ _ _ _ => (ae_callB af_abs (by rfl) T.z_abs (by decide +kernel) (aa_cons (ae_var 2) aa_nil)))) (as_cons (as_if (at_cmp (ac_eq hr.units) (ae_callB af_len (by rfl) T.z_len (by decide +kernel) (aa_cons (ae_var 1) aa_nil)) ae_int (nomark _)) (as_one (as_set 1 sc_law_state.nd (ae_lst (aa_cons ae_int aa_nil)))) as_nil) (as_one (as_ret (ae_lst (aa_cons ae_int (aa_cons (ae_var 1) aa_nil)))))))
theorem sc_law_take : FnScope ["state", "most", "cells", "at", "cell", "mixed"] ["state", "most"] (defScope s_law_take) := ⟨rfl, rfl, rfl, by decide +kernel, rfl, by decide +kernel, by decide +kernel⟩
theorem ok_law_take (T : Txt K mg cl A) : FnOk P w K mg base CX0 1 A.f_law_take A.d_law_take ["state", "most"] (spA K ⟨cl, P, w, none⟩ m_law_take) :=
  fn_ok T.F_law_take sc_law_take fun cdv A' outer s H E hr => (as_cons (as_set 2 sc_law_take.nd (ae_sub (hu_of hr) (ae_var 0) ae_int)) (as_cons (as_set 3 sc_law_take.nd (ae_op ab_mod (ae_sub (hu_of hr) (ae_var 0) ae_int) (ae_callB af_len (by rfl) T.z_len (by decide +kernel) (aa_cons (ae_var 2) aa_nil)))) (as_cons (as_set 4 sc_law_take.nd (ae_sub (hu_of hr) (ae_var 2) (ae_var 3))) (as_cons (as_if (at_cmp (ac_ge) (ae_var 4) ae_int (nomark _)) (as_cons (as_sub (hu_of hr) (ae_var 2) (ae_var 3) (ae_op ab_div (ae_var 4) (ae_var 1))) (as_one (as_ret (ae_op ab_mod (ae_var 4) (ae_var 1))))) as_nil) (as_cons (as_sub (hu_of hr) (ae_var 0) ae_int (ae_op ab_add (ae_sub (hu_of hr) (ae_var 0) ae_int) ae_int)) (as_cons (as_set 5 sc_law_take.nd (ae_op ab_mod (ae_callT af_int (by rfl) T.z_int (by decide +kernel) (aa_cons (ae_op ab_add (ae_op ab_mul (ae_var 4) ae_int) (ae_op ab_mul (ae_sub (hu_of hr) (ae_var 0) ae_int) ae_int)) aa_nil)) ae_int)) (as_cons (as_set 5 sc_law_take.nd (ae_op ab_mod (ae_callT af_int (by rfl) T.z_int (by decide +kernel) (aa_cons (ae_op ab_add (ae_op ab_mul (ae_var 5) ae_int) (ae_op ab_mul (ae_sub (hu_of hr) (ae_var 0) ae_int) ae_int)) aa_nil)) ae_int)) (as_one (as_ret (ae_op ab_mod (ae_op ab_div (ae_var 5) ae_int) (ae_var 1)))))))))))
theorem sc_law_new : FnScope ["state", "loose", "heads", "kind", "head", "item"] ["state", "loose", "heads"] (defScope s_law_new) := ⟨rfl, rfl, rfl, by decide +kernel, rfl, by decide +kernel, by decide +kernel⟩
theorem ok_law_new (T : Txt K mg cl A) : FnOk P w K mg base CX0 3 A.f_law_new A.d_law_new ["state", "loose", "heads"] (spA K ⟨cl, P, w, none⟩ m_law_new) :=
  fn_ok T.F_law_new sc_law_new fun cdv A' outer s H E hr => (as_cons (as_set 3 sc_law_new.nd (ae_call (ok_law_take T) (hr.mono (by decide)) (by rfl) T.g_law_take T.F_law_take.kp T.b_law_take (aa_cons (ae_var 0) (aa_cons ae_int aa_nil)))) (as_cons (as_set 4 sc_law_new.nd (ae_sub (hu_of hr) (ae_var 2) (ae_call (ok_law_take T) (hr.mono (by decide)) (by rfl) T.g_law_take T.F_law_take.kp T.b_law_take (aa_cons (ae_var 0) (aa_cons ae_int aa_nil))))) (as_cons (as_if (at_w (aw_and (at_cmp (ac_lt) (ae_var 3) ae_int (nomark _)) (aw_and1 (at_cmp (ac_gt) (ae_callB af_len (by rfl) T.z_len (by decide +kernel) (aa_cons (ae_var 1) aa_nil)) ae_int (nomark _))))) (as_cons (as_set 5 sc_law_new.nd (ae_pop1 (ae_var 1) (aa_cons (ae_call (ok_law_take T) (hr.mono (by decide)) (by rfl) T.g_law_take T.F_law_take.kp T.b_law_take (aa_cons (ae_var 0) (aa_cons (ae_callB af_len (by rfl) T.z_len (by decide +kernel) (aa_cons (ae_var 1) aa_nil)) aa_nil))) aa_nil) (fun _ _ h1 h2 => pe_bm PySem.F.plainAttrs_list PySem.F.slot_list_pop PySem.F.type_list_pop mt_popAt h1 h2))) (as_one (as_ret (ae_tup (aa_cons ae_str (aa_cons (ae_var 4) (aa_cons (ae_make (cn := "Push") T.c_Push T.mk_Push (ok_Push_init T) (hr.mono (by decide)) (by rfl) T.gC_Push T.b_Push_init (aa_cons (ae_var 4) (aa_cons (ae_var 5) aa_nil))) (aa_cons (ae_var 5) aa_nil)))))))) as_nil) (as_cons (as_if (at_cmp (ac_eq hr.units) (ae_var 3) ae_int (nomark _)) (as_one (as_ret (ae_tup (aa_cons ae_str (aa_cons (ae_var 4) (aa_cons (ae_make (cn := "TakeAll") T.c_TakeAll T.mk_TakeAll (ok_TakeAll_init T) (hr.mono (by decide)) (by rfl) T.gC_TakeAll T.b_TakeAll_init (aa_cons (ae_var 4) aa_nil)) (aa_cons ae_int aa_nil))))))) as_nil) (as_one (as_ret (ae_tup (aa_cons ae_str (aa_cons (ae_var 4) (aa_cons (ae_make (cn := "Pop") T.c_Pop T.mk_Pop (ok_Pop_init T) (hr.mono (by decide)) (by rfl) T.gC_Pop T.b_Pop_init (aa_cons (ae_var 4) aa_nil)) (aa_cons ae_int aa_nil)))))))))))
theorem sc_items_from : FnScope ["memory", "head", "top", "found", "known"] ["memory", "head", "top"] (defScope s_items_from) := ⟨rfl, rfl, rfl, by decide +kernel, rfl, by decide +kernel, by decide +kernel⟩
theorem ok_items_from (T : Txt K mg cl A) : FnOk P w K mg base CX0 2 A.f_items_from A.d_items_from ["memory", "head", "top"] (spA K ⟨cl, P, w, none⟩ m_items_from) :=
  fn_ok T.F_items_from sc_items_from fun cdv A' outer s H E hr => (as_cons (as_set 3 sc_items_from.nd (ae_lst aa_nil)) (as_cons (as_set 4 sc_items_from.nd (ae_set0 (by rfl) T.z_set (by decide +kernel))) (as_cons (as_while PassesOwn.never (at_w (aw_and (at_cmp (ac_gt) (ae_var 2) ae_int (nomark _)) (aw_and1 (at_nin5 (hu65_of hr) (ae_var 2) (ae_var 4))))) (as_cons (as_expr (ae_sadd (ae_var 4) (aa_cons (ae_var 2) aa_nil) (fun _ _ h1 h2 => pe_sadd h1 h2))) (as_cons (as_expr (ae_append (ae_var 3) (aa_cons (ae_op ab_sub (ae_var 2) ae_int) aa_nil) (fun _ _ h1 h2 => pe_bm PySem.F.plainAttrs_list PySem.F.slot_list_append PySem.F.type_list_append mt_append h1 h2))) (as_one (as_set 2 sc_items_from.nd (ae_meth (nm := "peek") (ae_var 0) (ma_cons (nm := "peek") T.c_Memory T.M_Memory_peek (ok_Memory_peek T) (hr.mono (by decide)) T.b_Memory_peek ma_nil) (aa_cons (ae_call (ok_next_cell T) (hr.mono (by decide)) (by rfl) T.g_next_cell T.F_next_cell.kp T.b_next_cell (aa_cons (ae_var 1) (aa_cons (ae_op ab_sub (ae_var 2) ae_int) aa_nil))) aa_nil))))))) (as_cons (as_if (at_cmp (ac_gt) (ae_var 2) ae_int (nomark _)) (as_one (as_expr (ae_append (ae_var 3) (aa_cons (ae_op ab_sub (ae_var 2) ae_int) aa_nil) (fun _ _ h1 h2 => pe_bm PySem.F.plainAttrs_list PySem.F.slot_list_append PySem.F.type_list_append mt_append h1 h2)))) as_nil) (as_one (as_ret (ae_var 3)))))))
theorem sc_items_of : FnScope ["memory", "head", "top", "_"] ["memory", "head"] (defScope s_items_of) := ⟨rfl, rfl, rfl, by decide +kernel, rfl, by decide +kernel, by decide +kernel⟩
theorem ok_items_of (T : Txt K mg cl A) : FnOk P w K mg base CX0 3 A.f_items_of A.d_items_of ["memory", "head"] (spA K ⟨cl, P, w, none⟩ m_items_of) :=
  fn_ok T.F_items_of sc_items_of fun cdv A' outer s H E hr => (as_cons (as_asg (ae_call (ok_head_value T) (hr.mono (by decide)) (by rfl) T.g_head_value T.F_head_value.kp T.b_head_value (aa_cons (ae_meth (nm := "peek") (ae_var 0) (ma_cons (nm := "peek") T.c_Memory T.M_Memory_peek (ok_Memory_peek T) (hr.mono (by decide)) T.b_Memory_peek ma_nil) (aa_cons (ae_var 1) aa_nil)) aa_nil)) (ag_tup rfl (gs_cons (ag_name 2 sc_items_of.nd) (gs_cons (ag_name 3 sc_items_of.nd) gs_nil)))) (as_one (as_ret (ae_call (ok_items_from T) (hr.mono (by decide)) (by rfl) T.g_items_from T.F_items_from.kp T.b_items_from (aa_cons (ae_var 0) (aa_cons (ae_var 1) (aa_cons (ae_var 2) aa_nil)))))))
theorem sc_TakeAll_holding : FnScope ["self", "memory"] ["self", "memory"] (defScope s_TakeAll_holding) := ⟨rfl, rfl, rfl, by decide +kernel, rfl, by decide +kernel, by decide +kernel⟩
theorem ok_TakeAll_holding (T : Txt K mg cl A) : FnOk P w K mg base CX0 3 A.f_TakeAll_holding A.d_TakeAll_holding ["self", "memory"] (spA K ⟨cl, P, w, none⟩ m_TakeAll_holding) :=
  fn_ok T.F_TakeAll_holding sc_TakeAll_holding fun cdv A' outer s H E hr => (as_one (as_ret (ae_op ab_add (ae_fld (f := "taken") (ae_var 0)) (ae_call (ok_items_from T) (hr.mono (by decide)) (by rfl) T.g_items_from T.F_items_from.kp T.b_items_from (aa_cons (ae_var 1) (aa_cons (ae_fld (f := "head") (ae_var 0)) (aa_cons (ae_fld (f := "rest") (ae_var 0)) aa_nil)))))))
theorem sc_Memory_read : FnScope ["self", "cell"] ["self", "cell"] (defScope s_Memory_read) := ⟨rfl, rfl, rfl, by decide +kernel, rfl, by decide +kernel, by decide +kernel⟩
theorem ok_Memory_read (T : Txt K mg cl A) : FnOk P w K mg base CX0 2 A.f_Memory_read A.d_Memory_read ["self", "cell"] (spA K ⟨cl, P, w, none⟩ m_Memory_read) :=
  fn_ok T.F_Memory_read sc_Memory_read fun cdv A' outer s H E hr => (as_cons (as_fldAug (f := "accesses") T.fo_accesses in_addI (ae_var 0) ae_int) (as_one (as_ret (ae_meth (nm := "peek") (ae_var 0) (ma_cons (nm := "peek") T.c_Memory T.M_Memory_peek (ok_Memory_peek T) (hr.mono (by decide)) T.b_Memory_peek ma_nil) (aa_cons (ae_var 1) aa_nil)))))
theorem sc_Memory_write : FnScope ["self", "cell", "value"] ["self", "cell", "value"] (defScope s_Memory_write) := ⟨rfl, rfl, rfl, by decide +kernel, rfl, by decide +kernel, by decide +kernel⟩
theorem ok_Memory_write (T : Txt K mg cl A) : FnOk P w K mg base CX0 2 A.f_Memory_write A.d_Memory_write ["self", "cell", "value"] (spA K ⟨cl, P, w, none⟩ m_Memory_write) :=
  fn_ok T.F_Memory_write sc_Memory_write fun cdv A' outer s H E hr => (as_cons (as_fldAug (f := "accesses") T.fo_accesses in_addI (ae_var 0) ae_int) (as_one (as_expr (ae_meth (nm := "set_up") (ae_var 0) (ma_cons (nm := "set_up") T.c_Memory T.M_Memory_set_up (ok_Memory_set_up T) (hr.mono (by decide)) T.b_Memory_set_up ma_nil) (aa_cons (ae_var 1) (aa_cons (ae_var 2) aa_nil))))))
theorem sc_Memory_swap : FnScope ["self", "cell", "old", "new"] ["self", "cell", "old", "new"] (defScope s_Memory_swap) := ⟨rfl, rfl, rfl, by decide +kernel, rfl, by decide +kernel, by decide +kernel⟩
theorem ok_Memory_swap (T : Txt K mg cl A) : FnOk P w K mg base CX0 2 A.f_Memory_swap A.d_Memory_swap ["self", "cell", "old", "new"] (spA K ⟨cl, P, w, none⟩ m_Memory_swap) :=
  fn_ok T.F_Memory_swap sc_Memory_swap fun cdv A' outer s H E hr => (as_cons (as_fldAug (f := "accesses") T.fo_accesses in_addI (ae_var 0) ae_int) (as_cons (as_if (at_cmp (ac_ne hr.units) (ae_meth (nm := "peek") (ae_var 0) (ma_cons (nm := "peek") T.c_Memory T.M_Memory_peek (ok_Memory_peek T) (hr.mono (by decide)) T.b_Memory_peek ma_nil) (aa_cons (ae_var 1) aa_nil)) (ae_var 2) (nomark _)) (as_one (as_ret ae_bl)) as_nil) (as_cons (as_expr (ae_meth (nm := "set_up") (ae_var 0) (ma_cons (nm := "set_up") T.c_Memory T.M_Memory_set_up (ok_Memory_set_up T) (hr.mono (by decide)) T.b_Memory_set_up ma_nil) (aa_cons (ae_var 1) (aa_cons (ae_var 3) aa_nil)))) (as_one (as_ret ae_bl)))))
theorem sc_law_after : FnScope ["machine", "before", "stacks", "loose", "memory", "rows", "word", "head", "inner", "item", "held", "other"] ["machine", "before", "stacks", "loose", "memory"] (defScope s_law_after) := ⟨rfl, rfl, rfl, by decide +kernel, rfl, by decide +kernel, by decide +kernel⟩
theorem ok_law_after (T : Txt K mg cl A) : FnOk P w K mg base CX0 4 A.f_law_after A.d_law_after ["machine", "before", "stacks", "loose", "memory"] (spA K ⟨cl, P, w, none⟩ m_law_after) :=
  fn_ok T.F_law_after sc_law_after fun cdv A' outer s H E hr => (as_cons (as_asg (ae_var 0) (ag_tup rfl (gs_cons (ag_name 6 sc_law_after.nd) (gs_cons (ag_name 7 sc_law_after.nd) (gs_cons (ag_name 8 sc_law_after.nd) (gs_cons (ag_name 9 sc_law_after.nd) gs_nil)))))) (as_cons (as_set 5 sc_law_after.nd (ae_sub (hu_of hr) (ae_var 2) (ae_var 7))) (as_cons (as_if (at_w (aw_and (at_cmp (ac_eq hr.units) (ae_var 6) ae_str (nomark _)) (aw_and1 (at_tru (ae_fld (f := "done") (ae_var 8)))))) (as_one (as_sub (hu_of hr) (ae_var 2) (ae_var 7) (ae_op ab_add (ae_lst (aa_cons (ae_var 9) aa_nil)) (ae_var 5)))) as_nil) (as_cons (as_if (at_w (aw_and (at_cmp (ac_eq hr.units) (ae_var 6) ae_str (nomark _)) (aw_and1 (at_tru (ae_fld (f := "done") (ae_var 8)))))) (as_cons (as_if (at_cmp (ac_is) (ae_fld (f := "result") (ae_var 8)) ae_non (nomark _)) (as_one (as_ret (ae_cmp (ac_eq hr.units) (ae_var 5) (ae_lst aa_nil) (nomark _)))) as_nil) (as_cons (as_if (at_w (aw_or (at_cmp (ac_eq hr.units) (ae_var 5) (ae_lst aa_nil) (nomark _)) (aw_or1 (at_cmp (ac_ne hr.units) (ae_sub (hu_of hr) (ae_var 5) ae_int) (ae_fld (f := "result") (ae_var 8)) (nomark _))))) (as_one (as_ret ae_bl)) as_nil) (as_cons (as_sub (hu_of hr) (ae_var 2) (ae_var 7) (ae_sl (ae_var 5) (ao_some ae_int) ao_none (fun _ _ _ h1 h2 h3 => pe_slice sl_list h1 h2 h3))) (as_one (as_expr (ae_append (ae_var 3) (aa_cons (ae_fld (f := "result") (ae_var 8)) aa_nil) (fun _ _ h1 h2 => pe_bm PySem.F.plainAttrs_list PySem.F.slot_list_append PySem.F.type_list_append mt_append h1 h2))))))) as_nil) (as_cons (as_if (at_cmp (ac_eq hr.units) (ae_var 6) ae_str (nomark _)) (as_cons (as_set 10 sc_law_after.nd (ae_meth (nm := "holding") (ae_var 8) (ma_cons (nm := "holding") T.c_TakeAll T.M_TakeAll_holding (ok_TakeAll_holding T) (hr.mono (by decide)) T.b_TakeAll_holding ma_nil) (aa_cons (ae_var 4) aa_nil))) (as_cons (as_if (at_w (aw_and (at_cmp (ac_eq hr.units) (ae_var 1) (ae_lst aa_nil) (nomark _)) (aw_and1 (at_cmp (ac_ne hr.units) (ae_var 10) (ae_lst aa_nil) (nomark _))))) (as_cons (as_if (at_cmp (ac_ne hr.units) (ae_var 10) (ae_var 5) (nomark _)) (as_one (as_ret ae_bl)) as_nil) (as_one (as_sub (hu_of hr) (ae_var 2) (ae_var 7) (ae_lst aa_nil)))) (as_one (as_if (at_cmp (ac_ne hr.units) (ae_var 10) (ae_var 1) (nomark _)) (as_one (as_ret ae_bl)) as_nil))) (as_one (as_if (at_tru (ae_fld (f := "done") (ae_var 8))) (as_cons (as_if (at_w (aw_or (at_w (aw_and (at_cmp (ac_eq hr.units) (ae_var 10) (ae_lst aa_nil) (nomark _)) (aw_and1 (at_cmp (ac_ne hr.units) (ae_var 5) (ae_lst aa_nil) (nomark _))))) (aw_or1 (at_cmp (ac_ne hr.units) (ae_fld (f := "taken") (ae_var 8)) (ae_var 10) (nomark _))))) (as_one (as_ret ae_bl)) as_nil) (as_one (as_for PassesOwn.never rfl (ai_list (ae_var 10)) (ag_name 11 sc_law_after.nd) (as_one (as_expr (ae_append (ae_var 3) (aa_cons (ae_var 11) aa_nil) (fun _ _ h1 h2 => pe_bm PySem.F.plainAttrs_list PySem.F.slot_list_append PySem.F.type_list_append mt_append h1 h2))))))) as_nil)))) as_nil) (as_one (as_ret ae_bl)))))))
theorem sc_change_head : FnScope ["memory", "head", "raw", "top", "_", "tag"] ["memory", "head", "raw", "top"] (defScope s_change_head) := ⟨rfl, rfl, rfl, by decide +kernel, rfl, by decide +kernel, by decide +kernel⟩
theorem ok_change_head (T : Txt K mg cl A) : FnOk P w K mg base CX0 3 A.f_change_head A.d_change_head ["memory", "head", "raw", "top"] (spA K ⟨cl, P, w, none⟩ m_change_head) :=
  fn_ok T.F_change_head sc_change_head fun cdv A' outer s H E hr => (as_cons (as_asg (ae_call (ok_head_value T) (hr.mono (by decide)) (by rfl) T.g_head_value T.F_head_value.kp T.b_head_value (aa_cons (ae_var 2) aa_nil)) (ag_tup rfl (gs_cons (ag_name 4 sc_change_head.nd) (gs_cons (ag_name 5 sc_change_head.nd) gs_nil)))) (as_one (as_ret (ae_meth (nm := "swap") (ae_var 0) (ma_cons (nm := "swap") T.c_Memory T.M_Memory_swap (ok_Memory_swap T) (hr.mono (by decide)) T.b_Memory_swap ma_nil) (aa_cons (ae_var 1) (aa_cons (ae_var 2) (aa_cons (ae_tup (aa_cons (ae_var 3) (aa_cons (ae_op ab_add (ae_var 5) ae_int) aa_nil))) aa_nil)))))))
theorem sc_Pop_read_head : FnScope ["self", "memory", "top", "_"] ["self", "memory"] (defScope s_Pop_read_head) := ⟨rfl, rfl, rfl, by decide +kernel, rfl, by decide +kernel, by decide +kernel⟩
theorem ok_Pop_read_head (T : Txt K mg cl A) : FnOk P w K mg base CX0 3 A.f_Pop_read_head A.d_Pop_read_head ["self", "memory"] (spA K ⟨cl, P, w, none⟩ m_Pop_read_head) :=
  fn_ok T.F_Pop_read_head sc_Pop_read_head fun cdv A' outer s H E hr => (as_cons (as_fld (f := "raw") T.fo_raw (ae_var 0) (ae_meth (nm := "read") (ae_var 1) (ma_cons (nm := "read") T.c_Memory T.M_Memory_read (ok_Memory_read T) (hr.mono (by decide)) T.b_Memory_read ma_nil) (aa_cons (ae_fld (f := "head") (ae_var 0)) aa_nil))) (as_cons (as_asg (ae_call (ok_head_value T) (hr.mono (by decide)) (by rfl) T.g_head_value T.F_head_value.kp T.b_head_value (aa_cons (ae_fld (f := "raw") (ae_var 0)) aa_nil)) (ag_tup rfl (gs_cons (ag_name 2 sc_Pop_read_head.nd) (gs_cons (ag_name 3 sc_Pop_read_head.nd) gs_nil)))) (as_cons (as_fld (f := "done") T.fo_done (ae_var 0) (ae_cmp (ac_eq hr.units) (ae_var 2) ae_int (nomark _))) (as_one (as_fld (f := "stage") T.fo_stage (ae_var 0) (ae_gS (by rfl) T.gc_READ_CELL))))))
theorem sc_Pop_swap_head : FnScope ["self", "memory"] ["self", "memory"] (defScope s_Pop_swap_head) := ⟨rfl, rfl, rfl, by decide +kernel, rfl, by decide +kernel, by decide +kernel⟩
theorem ok_Pop_swap_head (T : Txt K mg cl A) : FnOk P w K mg base CX0 4 A.f_Pop_swap_head A.d_Pop_swap_head ["self", "memory"] (spA K ⟨cl, P, w, none⟩ m_Pop_swap_head) :=
  fn_ok T.F_Pop_swap_head sc_Pop_swap_head fun cdv A' outer s H E hr => (as_one (as_if (at_tru (ae_call (ok_change_head T) (hr.mono (by decide)) (by rfl) T.g_change_head T.F_change_head.kp T.b_change_head (aa_cons (ae_var 1) (aa_cons (ae_fld (f := "head") (ae_var 0)) (aa_cons (ae_fld (f := "raw") (ae_var 0)) (aa_cons (ae_fld (f := "below") (ae_var 0)) aa_nil)))))) (as_cons (as_fld (f := "result") T.fo_result (ae_var 0) (ae_meth0 (nm := "topmost") (ae_var 0) (ma_cons (nm := "topmost") T.c_Pop T.M_Pop_topmost (ok_Pop_topmost T) (hr.mono (by decide)) T.b_Pop_topmost ma_nil))) (as_one (as_fld (f := "done") T.fo_done (ae_var 0) ae_bl))) (as_one (as_fld (f := "stage") T.fo_stage (ae_var 0) (ae_gS (by rfl) T.gc_READ_HEAD)))))
theorem sc_Push_write_cell : FnScope ["self", "memory", "top", "_"] ["self", "memory"] (defScope s_Push_write_cell) := ⟨rfl, rfl, rfl, by decide +kernel, rfl, by decide +kernel, by decide +kernel⟩
theorem ok_Push_write_cell (T : Txt K mg cl A) : FnOk P w K mg base CX0 3 A.f_Push_write_cell A.d_Push_write_cell ["self", "memory"] (spA K ⟨cl, P, w, none⟩ m_Push_write_cell) :=
  fn_ok T.F_Push_write_cell sc_Push_write_cell fun cdv A' outer s H E hr => (as_cons (as_asg (ae_call (ok_head_value T) (hr.mono (by decide)) (by rfl) T.g_head_value T.F_head_value.kp T.b_head_value (aa_cons (ae_fld (f := "raw") (ae_var 0)) aa_nil)) (ag_tup rfl (gs_cons (ag_name 2 sc_Push_write_cell.nd) (gs_cons (ag_name 3 sc_Push_write_cell.nd) gs_nil)))) (as_cons (as_expr (ae_meth (nm := "write") (ae_var 1) (ma_cons (nm := "write") T.c_Memory T.M_Memory_write (ok_Memory_write T) (hr.mono (by decide)) T.b_Memory_write ma_nil) (aa_cons (ae_call (ok_next_cell T) (hr.mono (by decide)) (by rfl) T.g_next_cell T.F_next_cell.kp T.b_next_cell (aa_cons (ae_fld (f := "head") (ae_var 0)) (aa_cons (ae_fld (f := "item") (ae_var 0)) aa_nil))) (aa_cons (ae_var 2) aa_nil)))) (as_one (as_fld (f := "stage") T.fo_stage (ae_var 0) (ae_gS (by rfl) T.gc_SWAP_HEAD)))))
theorem sc_Push_swap_head : FnScope ["self", "memory"] ["self", "memory"] (defScope s_Push_swap_head) := ⟨rfl, rfl, rfl, by decide +kernel, rfl, by decide +kernel, by decide +kernel⟩
theorem ok_Push_swap_head (T : Txt K mg cl A) : FnOk P w K mg base CX0 4 A.f_Push_swap_head A.d_Push_swap_head ["self", "memory"] (spA K ⟨cl, P, w, none⟩ m_Push_swap_head) :=
  fn_ok T.F_Push_swap_head sc_Push_swap_head fun cdv A' outer s H E hr => (as_cons (as_fld (f := "done") T.fo_done (ae_var 0) (ae_call (ok_change_head T) (hr.mono (by decide)) (by rfl) T.g_change_head T.F_change_head.kp T.b_change_head (aa_cons (ae_var 1) (aa_cons (ae_fld (f := "head") (ae_var 0)) (aa_cons (ae_fld (f := "raw") (ae_var 0)) (aa_cons (ae_op ab_add (ae_fld (f := "item") (ae_var 0)) ae_int) aa_nil)))))) (as_one (as_fld (f := "stage") T.fo_stage (ae_var 0) (ae_gS (by rfl) T.gc_READ_HEAD))))
theorem sc_TakeAll_read_head : FnScope ["self", "memory", "top", "_"] ["self", "memory"] (defScope s_TakeAll_read_head) := ⟨rfl, rfl, rfl, by decide +kernel, rfl, by decide +kernel, by decide +kernel⟩
theorem ok_TakeAll_read_head (T : Txt K mg cl A) : FnOk P w K mg base CX0 3 A.f_TakeAll_read_head A.d_TakeAll_read_head ["self", "memory"] (spA K ⟨cl, P, w, none⟩ m_TakeAll_read_head) :=
  fn_ok T.F_TakeAll_read_head sc_TakeAll_read_head fun cdv A' outer s H E hr => (as_cons (as_fld (f := "raw") T.fo_raw (ae_var 0) (ae_meth (nm := "read") (ae_var 1) (ma_cons (nm := "read") T.c_Memory T.M_Memory_read (ok_Memory_read T) (hr.mono (by decide)) T.b_Memory_read ma_nil) (aa_cons (ae_fld (f := "head") (ae_var 0)) aa_nil))) (as_cons (as_asg (ae_call (ok_head_value T) (hr.mono (by decide)) (by rfl) T.g_head_value T.F_head_value.kp T.b_head_value (aa_cons (ae_fld (f := "raw") (ae_var 0)) aa_nil)) (ag_tup rfl (gs_cons (ag_name 2 sc_TakeAll_read_head.nd) (gs_cons (ag_name 3 sc_TakeAll_read_head.nd) gs_nil)))) (as_cons (as_fld (f := "done") T.fo_done (ae_var 0) (ae_cmp (ac_eq hr.units) (ae_var 2) ae_int (nomark _))) (as_one (as_fld (f := "stage") T.fo_stage (ae_var 0) (ae_gS (by rfl) T.gc_SWAP_HEAD))))))
theorem sc_TakeAll_swap_head : FnScope ["self", "memory", "_"] ["self", "memory"] (defScope s_TakeAll_swap_head) := ⟨rfl, rfl, rfl, by decide +kernel, rfl, by decide +kernel, by decide +kernel⟩
theorem ok_TakeAll_swap_head (T : Txt K mg cl A) : FnOk P w K mg base CX0 4 A.f_TakeAll_swap_head A.d_TakeAll_swap_head ["self", "memory"] (spA K ⟨cl, P, w, none⟩ m_TakeAll_swap_head) :=
  fn_ok T.F_TakeAll_swap_head sc_TakeAll_swap_head fun cdv A' outer s H E hr => (as_one (as_if (at_tru (ae_call (ok_change_head T) (hr.mono (by decide)) (by rfl) T.g_change_head T.F_change_head.kp T.b_change_head (aa_cons (ae_var 1) (aa_cons (ae_fld (f := "head") (ae_var 0)) (aa_cons (ae_fld (f := "raw") (ae_var 0)) (aa_cons ae_int aa_nil)))))) (as_cons (as_asgH (ae_call (ok_head_value T) (hr.mono (by decide)) (by rfl) T.g_head_value T.F_head_value.kp T.b_head_value (aa_cons (ae_fld (f := "raw") (ae_var 0)) aa_nil)) (ah_tup rfl (hs_cons (ah_fld (f := "rest") T.fo_rest (ae_var 0)) (hs_cons (ah_loc (ag_name 2 sc_TakeAll_swap_head.nd)) hs_nil)))) (as_one (as_fld (f := "stage") T.fo_stage (ae_var 0) (ae_gS (by rfl) T.gc_READ_CELL)))) (as_one (as_fld (f := "stage") T.fo_stage (ae_var 0) (ae_gS (by rfl) T.gc_READ_HEAD)))))
theorem sc_TakeAll_read_cell : FnScope ["self", "memory", "item"] ["self", "memory"] (defScope s_TakeAll_read_cell) := ⟨rfl, rfl, rfl, by decide +kernel, rfl, by decide +kernel, by decide +kernel⟩
theorem ok_TakeAll_read_cell (T : Txt K mg cl A) : FnOk P w K mg base CX0 3 A.f_TakeAll_read_cell A.d_TakeAll_read_cell ["self", "memory"] (spA K ⟨cl, P, w, none⟩ m_TakeAll_read_cell) :=
  fn_ok T.F_TakeAll_read_cell sc_TakeAll_read_cell fun cdv A' outer s H E hr => (as_cons (as_set 2 sc_TakeAll_read_cell.nd (ae_op ab_sub (ae_fld (f := "rest") (ae_var 0)) ae_int)) (as_cons (as_fld (f := "rest") T.fo_rest (ae_var 0) (ae_meth (nm := "read") (ae_var 1) (ma_cons (nm := "read") T.c_Memory T.M_Memory_read (ok_Memory_read T) (hr.mono (by decide)) T.b_Memory_read ma_nil) (aa_cons (ae_call (ok_next_cell T) (hr.mono (by decide)) (by rfl) T.g_next_cell T.F_next_cell.kp T.b_next_cell (aa_cons (ae_fld (f := "head") (ae_var 0)) (aa_cons (ae_var 2) aa_nil))) aa_nil))) (as_cons (as_expr (ae_append (ae_fld (f := "taken") (ae_var 0)) (aa_cons (ae_var 2) aa_nil) (fun _ _ h1 h2 => pe_bm PySem.F.plainAttrs_list PySem.F.slot_list_append PySem.F.type_list_append mt_append h1 h2))) (as_one (as_fld (f := "done") T.fo_done (ae_var 0) (ae_cmp (ac_eq hr.units) (ae_fld (f := "rest") (ae_var 0)) ae_int (nomark _)))))))
theorem sc_Pop_step : FnScope ["self", "memory"] ["self", "memory"] (defScope s_Pop_step) := ⟨rfl, rfl, rfl, by decide +kernel, rfl, by decide +kernel, by decide +kernel⟩
theorem ok_Pop_step (T : Txt K mg cl A) : FnOk P w K mg base CX0 5 A.f_Pop_step A.d_Pop_step ["self", "memory"] (spA K ⟨cl, P, w, none⟩ m_Pop_step) :=
  fn_ok T.F_Pop_step sc_Pop_step fun cdv A' outer s H E hr => (as_one (as_if (at_cmp (ac_eq hr.units) (ae_fld (f := "stage") (ae_var 0)) (ae_gS (by rfl) T.gc_READ_HEAD) (nomark _)) (as_one (as_expr (ae_meth (nm := "read_head") (ae_var 0) (ma_cons (nm := "read_head") T.c_Pop T.M_Pop_read_head (ok_Pop_read_head T) (hr.mono (by decide)) T.b_Pop_read_head ma_nil) (aa_cons (ae_var 1) aa_nil)))) (as_one (as_if (at_cmp (ac_eq hr.units) (ae_fld (f := "stage") (ae_var 0)) (ae_gS (by rfl) T.gc_READ_CELL) (nomark _)) (as_cons (as_fld (f := "below") T.fo_below (ae_var 0) (ae_meth (nm := "read") (ae_var 1) (ma_cons (nm := "read") T.c_Memory T.M_Memory_read (ok_Memory_read T) (hr.mono (by decide)) T.b_Memory_read ma_nil) (aa_cons (ae_call (ok_next_cell T) (hr.mono (by decide)) (by rfl) T.g_next_cell T.F_next_cell.kp T.b_next_cell (aa_cons (ae_fld (f := "head") (ae_var 0)) (aa_cons (ae_meth0 (nm := "topmost") (ae_var 0) (ma_cons (nm := "topmost") T.c_Pop T.M_Pop_topmost (ok_Pop_topmost T) (hr.mono (by decide)) T.b_Pop_topmost ma_nil)) aa_nil))) aa_nil))) (as_one (as_fld (f := "stage") T.fo_stage (ae_var 0) (ae_gS (by rfl) T.gc_SWAP_HEAD)))) (as_one (as_expr (ae_meth (nm := "swap_head") (ae_var 0) (ma_cons (nm := "swap_head") T.c_Pop T.M_Pop_swap_head (ok_Pop_swap_head T) (hr.mono (by decide)) T.b_Pop_swap_head ma_nil) (aa_cons (ae_var 1) aa_nil))))))))
theorem sc_Push_step : FnScope ["self", "memory"] ["self", "memory"] (defScope s_Push_step) := ⟨rfl, rfl, rfl, by decide +kernel, rfl, by decide +kernel, by decide +kernel⟩
theorem ok_Push_step (T : Txt K mg cl A) : FnOk P w K mg base CX0 5 A.f_Push_step A.d_Push_step ["self", "memory"] (spA K ⟨cl, P, w, none⟩ m_Push_step) :=
  fn_ok T.F_Push_step sc_Push_step fun cdv A' outer s H E hr => (as_one (as_if (at_cmp (ac_eq hr.units) (ae_fld (f := "stage") (ae_var 0)) (ae_gS (by rfl) T.gc_READ_HEAD) (nomark _)) (as_cons (as_fld (f := "raw") T.fo_raw (ae_var 0) (ae_meth (nm := "read") (ae_var 1) (ma_cons (nm := "read") T.c_Memory T.M_Memory_read (ok_Memory_read T) (hr.mono (by decide)) T.b_Memory_read ma_nil) (aa_cons (ae_fld (f := "head") (ae_var 0)) aa_nil))) (as_one (as_fld (f := "stage") T.fo_stage (ae_var 0) (ae_gS (by rfl) T.gc_WRITE_CELL)))) (as_one (as_if (at_cmp (ac_eq hr.units) (ae_fld (f := "stage") (ae_var 0)) (ae_gS (by rfl) T.gc_WRITE_CELL) (nomark _)) (as_one (as_expr (ae_meth (nm := "write_cell") (ae_var 0) (ma_cons (nm := "write_cell") T.c_Push T.M_Push_write_cell (ok_Push_write_cell T) (hr.mono (by decide)) T.b_Push_write_cell ma_nil) (aa_cons (ae_var 1) aa_nil)))) (as_one (as_expr (ae_meth (nm := "swap_head") (ae_var 0) (ma_cons (nm := "swap_head") T.c_Push T.M_Push_swap_head (ok_Push_swap_head T) (hr.mono (by decide)) T.b_Push_swap_head ma_nil) (aa_cons (ae_var 1) aa_nil))))))))
theorem sc_TakeAll_step : FnScope ["self", "memory"] ["self", "memory"] (defScope s_TakeAll_step) := ⟨rfl, rfl, rfl, by decide +kernel, rfl, by decide +kernel, by decide +kernel⟩
theorem ok_TakeAll_step (T : Txt K mg cl A) : FnOk P w K mg base CX0 5 A.f_TakeAll_step A.d_TakeAll_step ["self", "memory"] (spA K ⟨cl, P, w, none⟩ m_TakeAll_step) :=
  fn_ok T.F_TakeAll_step sc_TakeAll_step fun cdv A' outer s H E hr => (as_one (as_if (at_cmp (ac_eq hr.units) (ae_fld (f := "stage") (ae_var 0)) (ae_gS (by rfl) T.gc_READ_HEAD) (nomark _)) (as_one (as_expr (ae_meth (nm := "read_head") (ae_var 0) (ma_cons (nm := "read_head") T.c_TakeAll T.M_TakeAll_read_head (ok_TakeAll_read_head T) (hr.mono (by decide)) T.b_TakeAll_read_head ma_nil) (aa_cons (ae_var 1) aa_nil)))) (as_one (as_if (at_cmp (ac_eq hr.units) (ae_fld (f := "stage") (ae_var 0)) (ae_gS (by rfl) T.gc_SWAP_HEAD) (nomark _)) (as_one (as_expr (ae_meth (nm := "swap_head") (ae_var 0) (ma_cons (nm := "swap_head") T.c_TakeAll T.M_TakeAll_swap_head (ok_TakeAll_swap_head T) (hr.mono (by decide)) T.b_TakeAll_swap_head ma_nil) (aa_cons (ae_var 1) aa_nil)))) (as_one (as_expr (ae_meth (nm := "read_cell") (ae_var 0) (ma_cons (nm := "read_cell") T.c_TakeAll T.M_TakeAll_read_cell (ok_TakeAll_read_cell T) (hr.mono (by decide)) T.b_TakeAll_read_cell ma_nil) (aa_cons (ae_var 1) aa_nil))))))))
theorem sc_law : FnScope ["script", "state", "memory", "heads", "stacks", "most", "loose", "machines", "turn", "at", "machine", "before", "count", "head", "k"] ["script"] (defScope s_law) := ⟨rfl, rfl, rfl, by decide +kernel, rfl, by decide +kernel, by decide +kernel⟩
theorem ok_law (T : Txt K mg cl A) : FnOk P w K mg base CX0 6 A.f_law A.d_law ["script"] (spA K ⟨cl, P, w, none⟩ m_law) :=
  fn_ok T.F_law sc_law fun cdv A' outer s H E hr => (as_cons (as_set 1 sc_law.nd (ae_call (ok_law_state T) (hr.mono (by decide)) (by rfl) T.g_law_state T.F_law_state.kp T.b_law_state (aa_cons (ae_var 0) aa_nil))) (as_cons (as_set 2 sc_law.nd (ae_make0 (cn := "Memory") T.c_Memory T.mk_Memory (ok_Memory_init T) (hr.mono (by decide)) (by rfl) T.gC_Memory T.b_Memory_init)) (as_cons (as_set 3 sc_law.nd (ae_lst (aa_cons (ae_call (ok_free_cell T) (hr.mono (by decide)) (by rfl) T.g_free_cell T.F_free_cell.kp T.b_free_cell (aa_cons ae_int aa_nil)) (aa_cons (ae_sub (hu_of hr) (ae_lst (aa_cons (ae_gT (by rfl) T.gc_PAGES) (aa_cons (ae_call (ok_free_cell T) (hr.mono (by decide)) (by rfl) T.g_free_cell T.F_free_cell.kp T.b_free_cell (aa_cons ae_int aa_nil)) aa_nil))) (ae_call (ok_law_take T) (hr.mono (by decide)) (by rfl) T.g_law_take T.F_law_take.kp T.b_law_take (aa_cons (ae_var 1) (aa_cons ae_int aa_nil)))) aa_nil)))) (as_cons (as_set 4 sc_law.nd (ae_dispT (hu_of hr) (ap_cons (ae_sub (hu_of hr) (ae_var 3) ae_int) (ae_lst aa_nil) (ap_cons (ae_sub (hu_of hr) (ae_var 3) ae_int) (ae_lst aa_nil) ap_nil)))) (as_cons (as_set 5 sc_law.nd (ae_op ab_add ae_int (ae_call (ok_law_take T) (hr.mono (by decide)) (by rfl) T.g_law_take T.F_law_take.kp T.b_law_take (aa_cons (ae_var 1) (aa_cons ae_int aa_nil))))) (as_cons (as_setLc 6 14 rfl sc_law.nd (sw_true rfl rfl rfl (by decide +kernel)) (ai_r1 (by rfl) T.z_range (aa_cons (ae_var 5) aa_nil)) (blkOk_by (own := [("k", 14)]) (N := ["script", "state", "memory", "heads", "stacks", "most", "loose", "machines", "turn", "at", "machine", "before", "count", "head", "k"]) (sc := defScope s_law) (by decide +kernel)) (fun _ _ _ _ _ => (pg_name (i := 14) sc_law.nd rfl (Or.inl rfl))) (fun _ _ _ _ _ => aq_nil) (fun _ _ _ _ _ => (ae_var 14))) (as_cons (as_set 7 sc_law.nd (ae_lst aa_nil)) (as_cons (as_for PassesOwn.never rfl (ai_r1 (by rfl) T.z_range (aa_cons (ae_call (ok_law_take T) (hr.mono (by decide)) (by rfl) T.g_law_take T.F_law_take.kp T.b_law_take (aa_cons (ae_var 1) (aa_cons ae_int aa_nil))) aa_nil)) (ag_name 8 sc_law.nd) (as_cons (as_if (at_cmp (ac_lt) (ae_callB af_len (by rfl) T.z_len (by decide +kernel) (aa_cons (ae_var 7) aa_nil)) (ae_op ab_add ae_int (ae_call (ok_law_take T) (hr.mono (by decide)) (by rfl) T.g_law_take T.F_law_take.kp T.b_law_take (aa_cons (ae_var 1) (aa_cons ae_int aa_nil)))) (nomark _)) (as_one (as_expr (ae_append (ae_var 7) (aa_cons (ae_call (ok_law_new T) (hr.mono (by decide)) (by rfl) T.g_law_new T.F_law_new.kp T.b_law_new (aa_cons (ae_var 1) (aa_cons (ae_var 6) (aa_cons (ae_var 3) aa_nil)))) aa_nil) (fun _ _ h1 h2 => pe_bm PySem.F.plainAttrs_list PySem.F.slot_list_append PySem.F.type_list_append mt_append h1 h2)))) as_nil) (as_cons (as_set 9 sc_law.nd (ae_call (ok_law_take T) (hr.mono (by decide)) (by rfl) T.g_law_take T.F_law_take.kp T.b_law_take (aa_cons (ae_var 1) (aa_cons (ae_callB af_len (by rfl) T.z_len (by decide +kernel) (aa_cons (ae_var 7) aa_nil)) aa_nil)))) (as_cons (as_set 10 sc_law.nd (ae_sub (hu_of hr) (ae_var 7) (ae_var 9))) (as_cons (as_set 11 sc_law.nd (ae_lst aa_nil)) (as_cons (as_if (at_cmp (ac_eq hr.units) (ae_sub (hu_of hr) (ae_var 10) ae_int) ae_str (nomark _)) (as_one (as_set 11 sc_law.nd (ae_meth (nm := "holding") (ae_sub (hu_of hr) (ae_var 10) ae_int) (ma_cons (nm := "holding") T.c_TakeAll T.M_TakeAll_holding (ok_TakeAll_holding T) (hr.mono (by decide)) T.b_TakeAll_holding ma_nil) (aa_cons (ae_var 2) aa_nil)))) as_nil) (as_cons (as_set 12 sc_law.nd (ae_fld (f := "accesses") (ae_var 2))) (as_cons (as_expr (ae_meth (nm := "step") (ae_sub (hu_of hr) (ae_var 10) ae_int) (ma_cons (nm := "step") T.c_Pop T.M_Pop_step (ok_Pop_step T) (hr.mono (by decide)) T.b_Pop_step (ma_cons (nm := "step") T.c_Push T.M_Push_step (ok_Push_step T) (hr.mono (by decide)) T.b_Push_step (ma_cons (nm := "step") T.c_TakeAll T.M_TakeAll_step (ok_TakeAll_step T) (hr.mono (by decide)) T.b_TakeAll_step ma_nil))) (aa_cons (ae_var 2) aa_nil))) (as_cons (as_if (at_w (aw_or (at_cmp (ac_ne hr.units) (ae_fld (f := "accesses") (ae_var 2)) (ae_op ab_add (ae_var 12) ae_int) (nomark _)) (aw_or1 (at_not (at_tru (ae_call (ok_law_after T) (hr.mono (by decide)) (by rfl) T.g_law_after T.F_law_after.kp T.b_law_after (aa_cons (ae_var 10) (aa_cons (ae_var 11) (aa_cons (ae_var 4) (aa_cons (ae_var 6) (aa_cons (ae_var 2) aa_nil))))))))))) (as_one (as_ret ae_bl)) as_nil) (as_cons (as_if (at_tru (ae_fld (f := "done") (ae_sub (hu_of hr) (ae_var 10) ae_int))) (as_one (as_set 7 sc_law.nd (ae_op ab_add (ae_sl (ae_var 7) ao_none (ao_some (ae_var 9)) (fun _ _ _ h1 h2 h3 => pe_slice sl_list h1 h2 h3)) (ae_sl (ae_var 7) (ao_some (ae_op ab_add (ae_var 9) ae_int)) ao_none (fun _ _ _ h1 h2 h3 => pe_slice sl_list h1 h2 h3))))) as_nil) (as_one (as_for PassesOwn.never rfl (ai_list (ae_var 3)) (ag_name 13 sc_law.nd) (as_one (as_if (at_cmp (ac_ne hr.units) (ae_call (ok_items_of T) (hr.mono (by decide)) (by rfl) T.g_items_of T.F_items_of.kp T.b_items_of (aa_cons (ae_var 2) (aa_cons (ae_var 13) aa_nil))) (ae_sub (hu_of hr) (ae_var 4) (ae_var 13)) (nomark _)) (as_one (as_ret ae_bl)) as_nil)))))))))))))) (as_one (as_ret ae_bl))))))))))
end
end Sy
namespace Sy
open PySem L2 PySem.Spec PyProof.Rows
theorem all_mk {l : PySem.W.OpenLaw} {w : World} {K : PySem.W.Frag} {h : Heap} {mg : Str → Option Value} {fa C0 C1 C2 C3 f0 f1 f2 f3 f4 f5 f6 f7 f8 f9 f10 f11 f12 f13 f14 f15 f16 f17 f18 f19 f20 f21 f22 f23 f24 f25 f26 f27 f28 f29 f30 f31 : Addr} (X : K.In h) (G : h.Ns mainGlobals mg) (hfa : mg "law" = some (.ref fa))
    {od0 an0 od1 an1 od2 an2 od3 an3 od4 an4 od5 an5 od6 an6 od7 an7 od8 an8 od9 an9 od10 an10 od11 an11 od12 an12 od13 an13 od14 an14 od15 an15 od16 an16 od17 an17 od18 an18 od19 an19 od20 an20 od21 an21 od22 an22 od23 an23 od24 an24 od25 an25 od26 an26 od27 an27 od28 an28 od29 an29 od30 an30 od31 an31 : Option Addr} {sl0 sl1 sl2 sl3 sl4 sl5 sl6 sl7 sl8 sl9 sl10 sl11 sl12 sl13 sl14 sl15 sl16 sl17 sl18 sl19 sl20 sl21 sl22 sl23 sl24 sl25 sl26 sl27 sl28 sl29 sl30 sl31 : Array (Option Value)} {oc0 kV0 dc0 pm0 cd0 ct0 oc1 kV1 dc1 pm1 cd1 ct1 oc2 kV2 dc2 pm2 cd2 ct2 oc3 kV3 dc3 pm3 cd3 ct3 oc4 kV4 dc4 pm4 cd4 ct4 oc5 kV5 dc5 pm5 cd5 ct5 oc6 kV6 dc6 pm6 cd6 ct6 oc7 kV7 dc7 pm7 cd7 ct7 oc8 kV8 dc8 pm8 cd8 ct8 oc9 kV9 dc9 pm9 cd9 ct9 oc10 kV10 dc10 pm10 cd10 ct10 oc11 kV11 dc11 pm11 cd11 ct11 oc12 kV12 dc12 pm12 cd12 ct12 oc13 kV13 dc13 pm13 cd13 ct13 oc14 kV14 dc14 pm14 cd14 ct14 oc15 kV15 dc15 pm15 cd15 ct15 oc16 kV16 dc16 pm16 cd16 ct16 oc17 kV17 dc17 pm17 cd17 ct17 oc18 kV18 dc18 pm18 cd18 ct18 oc19 kV19 dc19 pm19 cd19 ct19 oc20 kV20 dc20 pm20 cd20 ct20 oc21 kV21 dc21 pm21 cd21 ct21 oc22 kV22 dc22 pm22 cd22 ct22 oc23 kV23 dc23 pm23 cd23 ct23 oc24 kV24 dc24 pm24 cd24 ct24 oc25 kV25 dc25 pm25 cd25 ct25 oc26 kV26 dc26 pm26 cd26 ct26 oc27 kV27 dc27 pm27 cd27 ct27 oc28 kV28 dc28 pm28 cd28 ct28 oc29 kV29 dc29 pm29 cd29 ct29 oc30 kV30 dc30 pm30 cd30 ct30 oc31 kV31 dc31 pm31 cd31 ct31 : Value}
    {gPAGES : Addr} {odPAGES : Option Addr} {nPAGES : Nat} {slPAGES : Array (Option Value)} {tPAGES0 : Tok}
    {tREAD_HEAD : Tok}
    {tREAD_CELL : Tok}
    {tWRITE_CELL : Tok}
    {tSWAP_HEAD : Tok}
    (aC_C0 : PySem.W.nsIn K mainGlobals "Pop" = some (some (.ref C0)))
    (aC_C1 : PySem.W.nsIn K mainGlobals "Push" = some (some (.ref C1)))
    (aC_C2 : PySem.W.nsIn K mainGlobals "TakeAll" = some (some (.ref C2)))
    (aC_C3 : PySem.W.nsIn K mainGlobals "Memory" = some (some (.ref C3)))
    (a0 : PySem.W.nsIn K mainGlobals "free_cell" = some (some (.ref f0)))
    (l0 : K.lookup f0 = some ⟨oc0, od0, .func (PySem.W.fnOf "free_cell" "free_cell" (defArgs s_free_cell) (defBody s_free_cell) (defScope s_free_cell) .none kV0 dc0 pm0 an0 cd0 ct0), sl0⟩)
    (c0 : PySem.W.codeIn K cd0 "free_cell" = true)
    (k0 : PySem.W.keepIn K (.ref f0) = true)
    (a1 : PySem.W.nsIn K mainGlobals "next_cell" = some (some (.ref f1)))
    (l1 : K.lookup f1 = some ⟨oc1, od1, .func (PySem.W.fnOf "next_cell" "next_cell" (defArgs s_next_cell) (defBody s_next_cell) (defScope s_next_cell) .none kV1 dc1 pm1 an1 cd1 ct1), sl1⟩)
    (c1 : PySem.W.codeIn K cd1 "next_cell" = true)
    (k1 : PySem.W.keepIn K (.ref f1) = true)
    (a2 : PySem.W.nsIn K mainGlobals "head_value" = some (some (.ref f2)))
    (l2 : K.lookup f2 = some ⟨oc2, od2, .func (PySem.W.fnOf "head_value" "head_value" (defArgs s_head_value) (defBody s_head_value) (defScope s_head_value) .none kV2 dc2 pm2 an2 cd2 ct2), sl2⟩)
    (c2 : PySem.W.codeIn K cd2 "head_value" = true)
    (k2 : PySem.W.keepIn K (.ref f2) = true)
    (a3 : PySem.W.findIn K (.ref C0) "__init__" = some (some (.ref f3)))
    (i3 : PySem.W.isFn K (.ref f3) = true)
    (l3 : K.lookup f3 = some ⟨oc3, od3, .func (PySem.W.fnOf "__init__" "Pop.__init__" (defArgs s_Pop_init) (defBody s_Pop_init) (defScope s_Pop_init) .none kV3 dc3 pm3 an3 cd3 ct3), sl3⟩)
    (c3 : PySem.W.codeIn K cd3 "Pop.__init__" = true)
    (k3 : PySem.W.keepIn K (.ref f3) = true)
    (a4 : PySem.W.findIn K (.ref C0) "topmost" = some (some (.ref f4)))
    (i4 : PySem.W.isFn K (.ref f4) = true)
    (l4 : K.lookup f4 = some ⟨oc4, od4, .func (PySem.W.fnOf "topmost" "Pop.topmost" (defArgs s_Pop_topmost) (defBody s_Pop_topmost) (defScope s_Pop_topmost) .none kV4 dc4 pm4 an4 cd4 ct4), sl4⟩)
    (c4 : PySem.W.codeIn K cd4 "Pop.topmost" = true)
    (k4 : PySem.W.keepIn K (.ref f4) = true)
    (a5 : PySem.W.findIn K (.ref C1) "__init__" = some (some (.ref f5)))
    (i5 : PySem.W.isFn K (.ref f5) = true)
    (l5 : K.lookup f5 = some ⟨oc5, od5, .func (PySem.W.fnOf "__init__" "Push.__init__" (defArgs s_Push_init) (defBody s_Push_init) (defScope s_Push_init) .none kV5 dc5 pm5 an5 cd5 ct5), sl5⟩)
    (c5 : PySem.W.codeIn K cd5 "Push.__init__" = true)
    (k5 : PySem.W.keepIn K (.ref f5) = true)
    (a6 : PySem.W.findIn K (.ref C2) "__init__" = some (some (.ref f6)))
    (i6 : PySem.W.isFn K (.ref f6) = true)
    (l6 : K.lookup f6 = some ⟨oc6, od6, .func (PySem.W.fnOf "__init__" "TakeAll.__init__" (defArgs s_TakeAll_init) (defBody s_TakeAll_init) (defScope s_TakeAll_init) .none kV6 dc6 pm6 an6 cd6 ct6), sl6⟩)
    (c6 : PySem.W.codeIn K cd6 "TakeAll.__init__" = true)
    (k6 : PySem.W.keepIn K (.ref f6) = true)
    (a7 : PySem.W.findIn K (.ref C3) "__init__" = some (some (.ref f7)))
    (i7 : PySem.W.isFn K (.ref f7) = true)
    (l7 : K.lookup f7 = some ⟨oc7, od7, .func (PySem.W.fnOf "__init__" "Memory.__init__" (defArgs s_Memory_init) (defBody s_Memory_init) (defScope s_Memory_init) .none kV7 dc7 pm7 an7 cd7 ct7), sl7⟩)
    (c7 : PySem.W.codeIn K cd7 "Memory.__init__" = true)
    (k7 : PySem.W.keepIn K (.ref f7) = true)
    (a8 : PySem.W.findIn K (.ref C3) "peek" = some (some (.ref f8)))
    (i8 : PySem.W.isFn K (.ref f8) = true)
    (l8 : K.lookup f8 = some ⟨oc8, od8, .func (PySem.W.fnOf "peek" "Memory.peek" (defArgs s_Memory_peek) (defBody s_Memory_peek) (defScope s_Memory_peek) .none kV8 dc8 pm8 an8 cd8 ct8), sl8⟩)
    (c8 : PySem.W.codeIn K cd8 "Memory.peek" = true)
    (k8 : PySem.W.keepIn K (.ref f8) = true)
    (a9 : PySem.W.findIn K (.ref C3) "set_up" = some (some (.ref f9)))
    (i9 : PySem.W.isFn K (.ref f9) = true)
    (l9 : K.lookup f9 = some ⟨oc9, od9, .func (PySem.W.fnOf "set_up" "Memory.set_up" (defArgs s_Memory_set_up) (defBody s_Memory_set_up) (defScope s_Memory_set_up) .none kV9 dc9 pm9 an9 cd9 ct9), sl9⟩)
    (c9 : PySem.W.codeIn K cd9 "Memory.set_up" = true)
    (k9 : PySem.W.keepIn K (.ref f9) = true)
    (a10 : PySem.W.nsIn K mainGlobals "_law_state" = some (some (.ref f10)))
    (l10 : K.lookup f10 = some ⟨oc10, od10, .func (PySem.W.fnOf "_law_state" "_law_state" (defArgs s_law_state) (defBody s_law_state) (defScope s_law_state) .none kV10 dc10 pm10 an10 cd10 ct10), sl10⟩)
    (c10 : PySem.W.codeIn K cd10 "_law_state" = true)
    (k10 : PySem.W.keepIn K (.ref f10) = true)
    (a11 : PySem.W.nsIn K mainGlobals "_law_take" = some (some (.ref f11)))
    (l11 : K.lookup f11 = some ⟨oc11, od11, .func (PySem.W.fnOf "_law_take" "_law_take" (defArgs s_law_take) (defBody s_law_take) (defScope s_law_take) .none kV11 dc11 pm11 an11 cd11 ct11), sl11⟩)
    (c11 : PySem.W.codeIn K cd11 "_law_take" = true)
    (k11 : PySem.W.keepIn K (.ref f11) = true)
    (a12 : PySem.W.nsIn K mainGlobals "_law_new" = some (some (.ref f12)))
    (l12 : K.lookup f12 = some ⟨oc12, od12, .func (PySem.W.fnOf "_law_new" "_law_new" (defArgs s_law_new) (defBody s_law_new) (defScope s_law_new) .none kV12 dc12 pm12 an12 cd12 ct12), sl12⟩)
    (c12 : PySem.W.codeIn K cd12 "_law_new" = true)
    (k12 : PySem.W.keepIn K (.ref f12) = true)
    (a13 : PySem.W.nsIn K mainGlobals "items_from" = some (some (.ref f13)))
    (l13 : K.lookup f13 = some ⟨oc13, od13, .func (PySem.W.fnOf "items_from" "items_from" (defArgs s_items_from) (defBody s_items_from) (defScope s_items_from) .none kV13 dc13 pm13 an13 cd13 ct13), sl13⟩)
    (c13 : PySem.W.codeIn K cd13 "items_from" = true)
    (k13 : PySem.W.keepIn K (.ref f13) = true)
    (a14 : PySem.W.nsIn K mainGlobals "items_of" = some (some (.ref f14)))
    (l14 : K.lookup f14 = some ⟨oc14, od14, .func (PySem.W.fnOf "items_of" "items_of" (defArgs s_items_of) (defBody s_items_of) (defScope s_items_of) .none kV14 dc14 pm14 an14 cd14 ct14), sl14⟩)
    (c14 : PySem.W.codeIn K cd14 "items_of" = true)
    (k14 : PySem.W.keepIn K (.ref f14) = true)
    (a15 : PySem.W.findIn K (.ref C2) "holding" = some (some (.ref f15)))
    (i15 : PySem.W.isFn K (.ref f15) = true)
    (l15 : K.lookup f15 = some ⟨oc15, od15, .func (PySem.W.fnOf "holding" "TakeAll.holding" (defArgs s_TakeAll_holding) (defBody s_TakeAll_holding) (defScope s_TakeAll_holding) .none kV15 dc15 pm15 an15 cd15 ct15), sl15⟩)
    (c15 : PySem.W.codeIn K cd15 "TakeAll.holding" = true)
    (k15 : PySem.W.keepIn K (.ref f15) = true)
    (a16 : PySem.W.findIn K (.ref C3) "read" = some (some (.ref f16)))
    (i16 : PySem.W.isFn K (.ref f16) = true)
    (l16 : K.lookup f16 = some ⟨oc16, od16, .func (PySem.W.fnOf "read" "Memory.read" (defArgs s_Memory_read) (defBody s_Memory_read) (defScope s_Memory_read) .none kV16 dc16 pm16 an16 cd16 ct16), sl16⟩)
    (c16 : PySem.W.codeIn K cd16 "Memory.read" = true)
    (k16 : PySem.W.keepIn K (.ref f16) = true)
    (a17 : PySem.W.findIn K (.ref C3) "write" = some (some (.ref f17)))
    (i17 : PySem.W.isFn K (.ref f17) = true)
    (l17 : K.lookup f17 = some ⟨oc17, od17, .func (PySem.W.fnOf "write" "Memory.write" (defArgs s_Memory_write) (defBody s_Memory_write) (defScope s_Memory_write) .none kV17 dc17 pm17 an17 cd17 ct17), sl17⟩)
    (c17 : PySem.W.codeIn K cd17 "Memory.write" = true)
    (k17 : PySem.W.keepIn K (.ref f17) = true)
    (a18 : PySem.W.findIn K (.ref C3) "swap" = some (some (.ref f18)))
    (i18 : PySem.W.isFn K (.ref f18) = true)
    (l18 : K.lookup f18 = some ⟨oc18, od18, .func (PySem.W.fnOf "swap" "Memory.swap" (defArgs s_Memory_swap) (defBody s_Memory_swap) (defScope s_Memory_swap) .none kV18 dc18 pm18 an18 cd18 ct18), sl18⟩)
    (c18 : PySem.W.codeIn K cd18 "Memory.swap" = true)
    (k18 : PySem.W.keepIn K (.ref f18) = true)
    (a19 : PySem.W.nsIn K mainGlobals "_law_after" = some (some (.ref f19)))
    (l19 : K.lookup f19 = some ⟨oc19, od19, .func (PySem.W.fnOf "_law_after" "_law_after" (defArgs s_law_after) (defBody s_law_after) (defScope s_law_after) .none kV19 dc19 pm19 an19 cd19 ct19), sl19⟩)
    (c19 : PySem.W.codeIn K cd19 "_law_after" = true)
    (k19 : PySem.W.keepIn K (.ref f19) = true)
    (a20 : PySem.W.nsIn K mainGlobals "change_head" = some (some (.ref f20)))
    (l20 : K.lookup f20 = some ⟨oc20, od20, .func (PySem.W.fnOf "change_head" "change_head" (defArgs s_change_head) (defBody s_change_head) (defScope s_change_head) .none kV20 dc20 pm20 an20 cd20 ct20), sl20⟩)
    (c20 : PySem.W.codeIn K cd20 "change_head" = true)
    (k20 : PySem.W.keepIn K (.ref f20) = true)
    (a21 : PySem.W.findIn K (.ref C0) "read_head" = some (some (.ref f21)))
    (i21 : PySem.W.isFn K (.ref f21) = true)
    (l21 : K.lookup f21 = some ⟨oc21, od21, .func (PySem.W.fnOf "read_head" "Pop.read_head" (defArgs s_Pop_read_head) (defBody s_Pop_read_head) (defScope s_Pop_read_head) .none kV21 dc21 pm21 an21 cd21 ct21), sl21⟩)
    (c21 : PySem.W.codeIn K cd21 "Pop.read_head" = true)
    (k21 : PySem.W.keepIn K (.ref f21) = true)
    (a22 : PySem.W.findIn K (.ref C0) "swap_head" = some (some (.ref f22)))
    (i22 : PySem.W.isFn K (.ref f22) = true)
    (l22 : K.lookup f22 = some ⟨oc22, od22, .func (PySem.W.fnOf "swap_head" "Pop.swap_head" (defArgs s_Pop_swap_head) (defBody s_Pop_swap_head) (defScope s_Pop_swap_head) .none kV22 dc22 pm22 an22 cd22 ct22), sl22⟩)
    (c22 : PySem.W.codeIn K cd22 "Pop.swap_head" = true)
    (k22 : PySem.W.keepIn K (.ref f22) = true)
    (a23 : PySem.W.findIn K (.ref C1) "write_cell" = some (some (.ref f23)))
    (i23 : PySem.W.isFn K (.ref f23) = true)
    (l23 : K.lookup f23 = some ⟨oc23, od23, .func (PySem.W.fnOf "write_cell" "Push.write_cell" (defArgs s_Push_write_cell) (defBody s_Push_write_cell) (defScope s_Push_write_cell) .none kV23 dc23 pm23 an23 cd23 ct23), sl23⟩)
    (c23 : PySem.W.codeIn K cd23 "Push.write_cell" = true)
    (k23 : PySem.W.keepIn K (.ref f23) = true)
    (a24 : PySem.W.findIn K (.ref C1) "swap_head" = some (some (.ref f24)))
    (i24 : PySem.W.isFn K (.ref f24) = true)
    (l24 : K.lookup f24 = some ⟨oc24, od24, .func (PySem.W.fnOf "swap_head" "Push.swap_head" (defArgs s_Push_swap_head) (defBody s_Push_swap_head) (defScope s_Push_swap_head) .none kV24 dc24 pm24 an24 cd24 ct24), sl24⟩)
    (c24 : PySem.W.codeIn K cd24 "Push.swap_head" = true)
    (k24 : PySem.W.keepIn K (.ref f24) = true)
    (a25 : PySem.W.findIn K (.ref C2) "read_head" = some (some (.ref f25)))
    (i25 : PySem.W.isFn K (.ref f25) = true)
    (l25 : K.lookup f25 = some ⟨oc25, od25, .func (PySem.W.fnOf "read_head" "TakeAll.read_head" (defArgs s_TakeAll_read_head) (defBody s_TakeAll_read_head) (defScope s_TakeAll_read_head) .none kV25 dc25 pm25 an25 cd25 ct25), sl25⟩)
    (c25 : PySem.W.codeIn K cd25 "TakeAll.read_head" = true)
    (k25 : PySem.W.keepIn K (.ref f25) = true)
    (a26 : PySem.W.findIn K (.ref C2) "swap_head" = some (some (.ref f26)))
    (i26 : PySem.W.isFn K (.ref f26) = true)
    (l26 : K.lookup f26 = some ⟨oc26, od26, .func (PySem.W.fnOf "swap_head" "TakeAll.swap_head" (defArgs s_TakeAll_swap_head) (defBody s_TakeAll_swap_head) (defScope s_TakeAll_swap_head) .none kV26 dc26 pm26 an26 cd26 ct26), sl26⟩)
    (c26 : PySem.W.codeIn K cd26 "TakeAll.swap_head" = true)
    (k26 : PySem.W.keepIn K (.ref f26) = true)
    (a27 : PySem.W.findIn K (.ref C2) "read_cell" = some (some (.ref f27)))
    (i27 : PySem.W.isFn K (.ref f27) = true)
    (l27 : K.lookup f27 = some ⟨oc27, od27, .func (PySem.W.fnOf "read_cell" "TakeAll.read_cell" (defArgs s_TakeAll_read_cell) (defBody s_TakeAll_read_cell) (defScope s_TakeAll_read_cell) .none kV27 dc27 pm27 an27 cd27 ct27), sl27⟩)
    (c27 : PySem.W.codeIn K cd27 "TakeAll.read_cell" = true)
    (k27 : PySem.W.keepIn K (.ref f27) = true)
    (a28 : PySem.W.findIn K (.ref C0) "step" = some (some (.ref f28)))
    (i28 : PySem.W.isFn K (.ref f28) = true)
    (l28 : K.lookup f28 = some ⟨oc28, od28, .func (PySem.W.fnOf "step" "Pop.step" (defArgs s_Pop_step) (defBody s_Pop_step) (defScope s_Pop_step) .none kV28 dc28 pm28 an28 cd28 ct28), sl28⟩)
    (c28 : PySem.W.codeIn K cd28 "Pop.step" = true)
    (k28 : PySem.W.keepIn K (.ref f28) = true)
    (a29 : PySem.W.findIn K (.ref C1) "step" = some (some (.ref f29)))
    (i29 : PySem.W.isFn K (.ref f29) = true)
    (l29 : K.lookup f29 = some ⟨oc29, od29, .func (PySem.W.fnOf "step" "Push.step" (defArgs s_Push_step) (defBody s_Push_step) (defScope s_Push_step) .none kV29 dc29 pm29 an29 cd29 ct29), sl29⟩)
    (c29 : PySem.W.codeIn K cd29 "Push.step" = true)
    (k29 : PySem.W.keepIn K (.ref f29) = true)
    (a30 : PySem.W.findIn K (.ref C2) "step" = some (some (.ref f30)))
    (i30 : PySem.W.isFn K (.ref f30) = true)
    (l30 : K.lookup f30 = some ⟨oc30, od30, .func (PySem.W.fnOf "step" "TakeAll.step" (defArgs s_TakeAll_step) (defBody s_TakeAll_step) (defScope s_TakeAll_step) .none kV30 dc30 pm30 an30 cd30 ct30), sl30⟩)
    (c30 : PySem.W.codeIn K cd30 "TakeAll.step" = true)
    (k30 : PySem.W.keepIn K (.ref f30) = true)
    (a31 : PySem.W.nsIn K mainGlobals "law" = some (some (.ref f31)))
    (l31 : K.lookup f31 = some ⟨oc31, od31, .func (PySem.W.fnOf "law" "law" (defArgs s_law) (defBody s_law) (defScope s_law) .none kV31 dc31 pm31 an31 cd31 ct31), sl31⟩)
    (c31 : PySem.W.codeIn K cd31 "law" = true)
    (k31 : PySem.W.keepIn K (.ref f31) = true)
    (pgC0 : PySem.W.plainGet K C0 Str.empty = true)
    (hdC0 : PySem.W.hasDictIn K C0 = true)
    (poC0 : PySem.W.plainOver K C0 = true)
    (saC0 : PySem.W.findIn K (.ref C0) "__setattr__" = some (some (.builtin "object.__setattr__")))
    (mkC0 : PySem.W.makesIn K C0 = true)
    (kcC0 : PySem.W.keepIn K (.ref C0) = true)
    (pgC1 : PySem.W.plainGet K C1 Str.empty = true)
    (hdC1 : PySem.W.hasDictIn K C1 = true)
    (poC1 : PySem.W.plainOver K C1 = true)
    (saC1 : PySem.W.findIn K (.ref C1) "__setattr__" = some (some (.builtin "object.__setattr__")))
    (mkC1 : PySem.W.makesIn K C1 = true)
    (kcC1 : PySem.W.keepIn K (.ref C1) = true)
    (pgC2 : PySem.W.plainGet K C2 Str.empty = true)
    (hdC2 : PySem.W.hasDictIn K C2 = true)
    (poC2 : PySem.W.plainOver K C2 = true)
    (saC2 : PySem.W.findIn K (.ref C2) "__setattr__" = some (some (.builtin "object.__setattr__")))
    (mkC2 : PySem.W.makesIn K C2 = true)
    (kcC2 : PySem.W.keepIn K (.ref C2) = true)
    (pgC3 : PySem.W.plainGet K C3 Str.empty = true)
    (hdC3 : PySem.W.hasDictIn K C3 = true)
    (poC3 : PySem.W.plainOver K C3 = true)
    (saC3 : PySem.W.findIn K (.ref C3) "__setattr__" = some (some (.builtin "object.__setattr__")))
    (mkC3 : PySem.W.makesIn K C3 = true)
    (kcC3 : PySem.W.keepIn K (.ref C3) = true)
    (n_head_C0 : PySem.W.findIn K (.ref C0) "head" = some none)
    (n_head_C1 : PySem.W.findIn K (.ref C1) "head" = some none)
    (n_head_C2 : PySem.W.findIn K (.ref C2) "head" = some none)
    (n_done_C0 : PySem.W.findIn K (.ref C0) "done" = some none)
    (n_done_C1 : PySem.W.findIn K (.ref C1) "done" = some none)
    (n_done_C2 : PySem.W.findIn K (.ref C2) "done" = some none)
    (n_result_C0 : PySem.W.findIn K (.ref C0) "result" = some none)
    (n_raw_C0 : PySem.W.findIn K (.ref C0) "raw" = some none)
    (n_raw_C1 : PySem.W.findIn K (.ref C1) "raw" = some none)
    (n_raw_C2 : PySem.W.findIn K (.ref C2) "raw" = some none)
    (n_below_C0 : PySem.W.findIn K (.ref C0) "below" = some none)
    (n_stage_C0 : PySem.W.findIn K (.ref C0) "stage" = some none)
    (n_stage_C1 : PySem.W.findIn K (.ref C1) "stage" = some none)
    (n_stage_C2 : PySem.W.findIn K (.ref C2) "stage" = some none)
    (n_item_C1 : PySem.W.findIn K (.ref C1) "item" = some none)
    (n_taken_C2 : PySem.W.findIn K (.ref C2) "taken" = some none)
    (n_rest_C2 : PySem.W.findIn K (.ref C2) "rest" = some none)
    (n_accesses_C3 : PySem.W.findIn K (.ref C3) "accesses" = some none)
    (n_cells_C3 : PySem.W.findIn K (.ref C3) "cells" = some none)
    (z_len : PySem.W.nsIn K mainGlobals "len" = some none)
    (z_abs : PySem.W.nsIn K mainGlobals "abs" = some none)
    (z_int : PySem.W.nsIn K mainGlobals "int" = some none)
    (z_range : PySem.W.nsIn K mainGlobals "range" = some none)
    (z_set : PySem.W.nsIn K mainGlobals "set" = some none)
    (gn_PAGES : PySem.W.nsIn K mainGlobals "PAGES" = some (some (.ref gPAGES)))
    (gl_PAGES : K.lookup gPAGES = some ⟨.type "tuple", odPAGES, .seq #[(.str "pages" tPAGES0)] nPAGES, slPAGES⟩)
    (gn_READ_HEAD : PySem.W.nsIn K mainGlobals "READ_HEAD" = some (some (.str "read the head" tREAD_HEAD)))
    (gn_READ_CELL : PySem.W.nsIn K mainGlobals "READ_CELL" = some (some (.str "read the cell of an item" tREAD_CELL)))
    (gn_WRITE_CELL : PySem.W.nsIn K mainGlobals "WRITE_CELL" = some (some (.str "write the cell of the item" tWRITE_CELL)))
    (gn_SWAP_HEAD : PySem.W.nsIn K mainGlobals "SWAP_HEAD" = some (some (.str "swap the head" tSWAP_HEAD)))
    (LT : ∀ ns : List Int, ns.length ≤ 63 → ∃ M', m_law [.ro (ns.map .int)] ⟨fun _ => none, 0⟩ = some (.bl true, M')) :
    ∃ fd : FuncData, (∀ (s : Shared) (v : Value), BindsTo s fd ⟨[v], []⟩ [("script", v)]) ∧ ∀ base : Heap, K.In base → base.Ns mainGlobals mg → FnOk l.prog w K mg base CX0 6 fa fd ["script"] (spLaw K) := by
  have e := hfa.symm.trans (PySem.W.mg_of X G a31)
  cases e
  have F0 := fun_mk (st := s_free_cell) l0 c0 k0
  have F1 := fun_mk (st := s_next_cell) l1 c1 k1
  have F2 := fun_mk (st := s_head_value) l2 c2 k2
  have F3 := fun_mk (st := s_Pop_init) l3 c3 k3
  have F4 := fun_mk (st := s_Pop_topmost) l4 c4 k4
  have F5 := fun_mk (st := s_Push_init) l5 c5 k5
  have F6 := fun_mk (st := s_TakeAll_init) l6 c6 k6
  have F7 := fun_mk (st := s_Memory_init) l7 c7 k7
  have F8 := fun_mk (st := s_Memory_peek) l8 c8 k8
  have F9 := fun_mk (st := s_Memory_set_up) l9 c9 k9
  have F10 := fun_mk (st := s_law_state) l10 c10 k10
  have F11 := fun_mk (st := s_law_take) l11 c11 k11
  have F12 := fun_mk (st := s_law_new) l12 c12 k12
  have F13 := fun_mk (st := s_items_from) l13 c13 k13
  have F14 := fun_mk (st := s_items_of) l14 c14 k14
  have F15 := fun_mk (st := s_TakeAll_holding) l15 c15 k15
  have F16 := fun_mk (st := s_Memory_read) l16 c16 k16
  have F17 := fun_mk (st := s_Memory_write) l17 c17 k17
  have F18 := fun_mk (st := s_Memory_swap) l18 c18 k18
  have F19 := fun_mk (st := s_law_after) l19 c19 k19
  have F20 := fun_mk (st := s_change_head) l20 c20 k20
  have F21 := fun_mk (st := s_Pop_read_head) l21 c21 k21
  have F22 := fun_mk (st := s_Pop_swap_head) l22 c22 k22
  have F23 := fun_mk (st := s_Push_write_cell) l23 c23 k23
  have F24 := fun_mk (st := s_Push_swap_head) l24 c24 k24
  have F25 := fun_mk (st := s_TakeAll_read_head) l25 c25 k25
  have F26 := fun_mk (st := s_TakeAll_swap_head) l26 c26 k26
  have F27 := fun_mk (st := s_TakeAll_read_cell) l27 c27 k27
  have F28 := fun_mk (st := s_Pop_step) l28 c28 k28
  have F29 := fun_mk (st := s_Push_step) l29 c29 k29
  have F30 := fun_mk (st := s_TakeAll_step) l30 c30 k30
  have F31 := fun_mk (st := s_law) l31 c31 k31
  have eC0 : cl_of C0 C1 C2 C3 "Pop" = C0 := by simp [cl_of]
  have eC1 : cl_of C0 C1 C2 C3 "Push" = C1 := by simp [cl_of]
  have eC2 : cl_of C0 C1 C2 C3 "TakeAll" = C2 := by simp [cl_of]
  have eC3 : cl_of C0 C1 C2 C3 "Memory" = C3 := by simp [cl_of]
  have T : Txt K mg (cl_of C0 C1 C2 C3) ⟨f0, _, f1, _, f2, _, f3, _, f4, _, f5, _, f6, _, f7, _, f8, _, f9, _, f10, _, f11, _, f12, _, f13, _, f14, _, f15, _, f16, _, f17, _, f18, _, f19, _, f20, _, f21, _, f22, _, f23, _, f24, _, f25, _, f26, _, f27, _, f28, _, f29, _, f30, _, fa, _⟩ := {
    c_Pop := by rw [eC0]; exact ⟨pgC0, hdC0, poC0, saC0⟩
    gC_Pop := by rw [eC0]; exact PySem.W.mg_of X G aC_C0
    mk_Pop := by rw [eC0]; exact ⟨mkC0, a3, i3, kcC0⟩
    c_Push := by rw [eC1]; exact ⟨pgC1, hdC1, poC1, saC1⟩
    gC_Push := by rw [eC1]; exact PySem.W.mg_of X G aC_C1
    mk_Push := by rw [eC1]; exact ⟨mkC1, a5, i5, kcC1⟩
    c_TakeAll := by rw [eC2]; exact ⟨pgC2, hdC2, poC2, saC2⟩
    gC_TakeAll := by rw [eC2]; exact PySem.W.mg_of X G aC_C2
    mk_TakeAll := by rw [eC2]; exact ⟨mkC2, a6, i6, kcC2⟩
    c_Memory := by rw [eC3]; exact ⟨pgC3, hdC3, poC3, saC3⟩
    gC_Memory := by rw [eC3]; exact PySem.W.mg_of X G aC_C3
    mk_Memory := by rw [eC3]; exact ⟨mkC3, a7, i7, kcC3⟩
    fo_head := fun c hc => by
      unfold cs_head at hc
      rcases List.mem_cons.mp hc with hc | hc
      · rw [hc, eC0]; exact n_head_C0
      rcases List.mem_cons.mp hc with hc | hc
      · rw [hc, eC1]; exact n_head_C1
      rcases List.mem_cons.mp hc with hc | hc
      · rw [hc, eC2]; exact n_head_C2
      cases hc
    fo_done := fun c hc => by
      unfold cs_done at hc
      rcases List.mem_cons.mp hc with hc | hc
      · rw [hc, eC0]; exact n_done_C0
      rcases List.mem_cons.mp hc with hc | hc
      · rw [hc, eC1]; exact n_done_C1
      rcases List.mem_cons.mp hc with hc | hc
      · rw [hc, eC2]; exact n_done_C2
      cases hc
    fo_result := fun c hc => by
      unfold cs_result at hc
      rcases List.mem_cons.mp hc with hc | hc
      · rw [hc, eC0]; exact n_result_C0
      cases hc
    fo_raw := fun c hc => by
      unfold cs_raw at hc
      rcases List.mem_cons.mp hc with hc | hc
      · rw [hc, eC0]; exact n_raw_C0
      rcases List.mem_cons.mp hc with hc | hc
      · rw [hc, eC1]; exact n_raw_C1
      rcases List.mem_cons.mp hc with hc | hc
      · rw [hc, eC2]; exact n_raw_C2
      cases hc
    fo_below := fun c hc => by
      unfold cs_below at hc
      rcases List.mem_cons.mp hc with hc | hc
      · rw [hc, eC0]; exact n_below_C0
      cases hc
    fo_stage := fun c hc => by
      unfold cs_stage at hc
      rcases List.mem_cons.mp hc with hc | hc
      · rw [hc, eC0]; exact n_stage_C0
      rcases List.mem_cons.mp hc with hc | hc
      · rw [hc, eC1]; exact n_stage_C1
      rcases List.mem_cons.mp hc with hc | hc
      · rw [hc, eC2]; exact n_stage_C2
      cases hc
    fo_item := fun c hc => by
      unfold cs_item at hc
      rcases List.mem_cons.mp hc with hc | hc
      · rw [hc, eC1]; exact n_item_C1
      cases hc
    fo_taken := fun c hc => by
      unfold cs_taken at hc
      rcases List.mem_cons.mp hc with hc | hc
      · rw [hc, eC2]; exact n_taken_C2
      cases hc
    fo_rest := fun c hc => by
      unfold cs_rest at hc
      rcases List.mem_cons.mp hc with hc | hc
      · rw [hc, eC2]; exact n_rest_C2
      cases hc
    fo_accesses := fun c hc => by
      unfold cs_accesses at hc
      rcases List.mem_cons.mp hc with hc | hc
      · rw [hc, eC3]; exact n_accesses_C3
      cases hc
    fo_cells := fun c hc => by
      unfold cs_cells at hc
      rcases List.mem_cons.mp hc with hc | hc
      · rw [hc, eC3]; exact n_cells_C3
      cases hc
    F_free_cell := F0
    b_free_cell := F0.binds (ps := ["size"]) fun _ _ _ _ _ _ us hl => match us, hl with | [_], _ => rfl
    g_free_cell := PySem.W.mg_of X G a0
    F_next_cell := F1
    b_next_cell := F1.binds (ps := ["head", "item"]) fun _ _ _ _ _ _ us hl => match us, hl with | [_, _], _ => rfl
    g_next_cell := PySem.W.mg_of X G a1
    F_head_value := F2
    b_head_value := F2.binds (ps := ["value"]) fun _ _ _ _ _ _ us hl => match us, hl with | [_], _ => rfl
    g_head_value := PySem.W.mg_of X G a2
    F_Pop_init := F3
    b_Pop_init := F3.binds (ps := ["self", "head"]) fun _ _ _ _ _ _ us hl => match us, hl with | [_, _], _ => rfl
    F_Pop_topmost := F4
    b_Pop_topmost := F4.binds (ps := ["self"]) fun _ _ _ _ _ _ us hl => match us, hl with | [_], _ => rfl
    M_Pop_topmost := by rw [eC0]; exact ⟨a4, i4, k4⟩
    F_Push_init := F5
    b_Push_init := F5.binds (ps := ["self", "head", "item"]) fun _ _ _ _ _ _ us hl => match us, hl with | [_, _, _], _ => rfl
    F_TakeAll_init := F6
    b_TakeAll_init := F6.binds (ps := ["self", "head"]) fun _ _ _ _ _ _ us hl => match us, hl with | [_, _], _ => rfl
    F_Memory_init := F7
    b_Memory_init := F7.binds (ps := ["self"]) fun _ _ _ _ _ _ us hl => match us, hl with | [_], _ => rfl
    F_Memory_peek := F8
    b_Memory_peek := F8.binds (ps := ["self", "cell"]) fun _ _ _ _ _ _ us hl => match us, hl with | [_, _], _ => rfl
    M_Memory_peek := by rw [eC3]; exact ⟨a8, i8, k8⟩
    F_Memory_set_up := F9
    b_Memory_set_up := F9.binds (ps := ["self", "cell", "value"]) fun _ _ _ _ _ _ us hl => match us, hl with | [_, _, _], _ => rfl
    M_Memory_set_up := by rw [eC3]; exact ⟨a9, i9, k9⟩
    F_law_state := F10
    b_law_state := F10.binds (ps := ["script"]) fun _ _ _ _ _ _ us hl => match us, hl with | [_], _ => rfl
    g_law_state := PySem.W.mg_of X G a10
    F_law_take := F11
    b_law_take := F11.binds (ps := ["state", "most"]) fun _ _ _ _ _ _ us hl => match us, hl with | [_, _], _ => rfl
    g_law_take := PySem.W.mg_of X G a11
    F_law_new := F12
    b_law_new := F12.binds (ps := ["state", "loose", "heads"]) fun _ _ _ _ _ _ us hl => match us, hl with | [_, _, _], _ => rfl
    g_law_new := PySem.W.mg_of X G a12
    F_items_from := F13
    b_items_from := F13.binds (ps := ["memory", "head", "top"]) fun _ _ _ _ _ _ us hl => match us, hl with | [_, _, _], _ => rfl
    g_items_from := PySem.W.mg_of X G a13
    F_items_of := F14
    b_items_of := F14.binds (ps := ["memory", "head"]) fun _ _ _ _ _ _ us hl => match us, hl with | [_, _], _ => rfl
    g_items_of := PySem.W.mg_of X G a14
    F_TakeAll_holding := F15
    b_TakeAll_holding := F15.binds (ps := ["self", "memory"]) fun _ _ _ _ _ _ us hl => match us, hl with | [_, _], _ => rfl
    M_TakeAll_holding := by rw [eC2]; exact ⟨a15, i15, k15⟩
    F_Memory_read := F16
    b_Memory_read := F16.binds (ps := ["self", "cell"]) fun _ _ _ _ _ _ us hl => match us, hl with | [_, _], _ => rfl
    M_Memory_read := by rw [eC3]; exact ⟨a16, i16, k16⟩
    F_Memory_write := F17
    b_Memory_write := F17.binds (ps := ["self", "cell", "value"]) fun _ _ _ _ _ _ us hl => match us, hl with | [_, _, _], _ => rfl
    M_Memory_write := by rw [eC3]; exact ⟨a17, i17, k17⟩
    F_Memory_swap := F18
    b_Memory_swap := F18.binds (ps := ["self", "cell", "old", "new"]) fun _ _ _ _ _ _ us hl => match us, hl with | [_, _, _, _], _ => rfl
    M_Memory_swap := by rw [eC3]; exact ⟨a18, i18, k18⟩
    F_law_after := F19
    b_law_after := F19.binds (ps := ["machine", "before", "stacks", "loose", "memory"]) fun _ _ _ _ _ _ us hl => match us, hl with | [_, _, _, _, _], _ => rfl
    g_law_after := PySem.W.mg_of X G a19
    F_change_head := F20
    b_change_head := F20.binds (ps := ["memory", "head", "raw", "top"]) fun _ _ _ _ _ _ us hl => match us, hl with | [_, _, _, _], _ => rfl
    g_change_head := PySem.W.mg_of X G a20
    F_Pop_read_head := F21
    b_Pop_read_head := F21.binds (ps := ["self", "memory"]) fun _ _ _ _ _ _ us hl => match us, hl with | [_, _], _ => rfl
    M_Pop_read_head := by rw [eC0]; exact ⟨a21, i21, k21⟩
    F_Pop_swap_head := F22
    b_Pop_swap_head := F22.binds (ps := ["self", "memory"]) fun _ _ _ _ _ _ us hl => match us, hl with | [_, _], _ => rfl
    M_Pop_swap_head := by rw [eC0]; exact ⟨a22, i22, k22⟩
    F_Push_write_cell := F23
    b_Push_write_cell := F23.binds (ps := ["self", "memory"]) fun _ _ _ _ _ _ us hl => match us, hl with | [_, _], _ => rfl
    M_Push_write_cell := by rw [eC1]; exact ⟨a23, i23, k23⟩
    F_Push_swap_head := F24
    b_Push_swap_head := F24.binds (ps := ["self", "memory"]) fun _ _ _ _ _ _ us hl => match us, hl with | [_, _], _ => rfl
    M_Push_swap_head := by rw [eC1]; exact ⟨a24, i24, k24⟩
    F_TakeAll_read_head := F25
    b_TakeAll_read_head := F25.binds (ps := ["self", "memory"]) fun _ _ _ _ _ _ us hl => match us, hl with | [_, _], _ => rfl
    M_TakeAll_read_head := by rw [eC2]; exact ⟨a25, i25, k25⟩
    F_TakeAll_swap_head := F26
    b_TakeAll_swap_head := F26.binds (ps := ["self", "memory"]) fun _ _ _ _ _ _ us hl => match us, hl with | [_, _], _ => rfl
    M_TakeAll_swap_head := by rw [eC2]; exact ⟨a26, i26, k26⟩
    F_TakeAll_read_cell := F27
    b_TakeAll_read_cell := F27.binds (ps := ["self", "memory"]) fun _ _ _ _ _ _ us hl => match us, hl with | [_, _], _ => rfl
    M_TakeAll_read_cell := by rw [eC2]; exact ⟨a27, i27, k27⟩
    F_Pop_step := F28
    b_Pop_step := F28.binds (ps := ["self", "memory"]) fun _ _ _ _ _ _ us hl => match us, hl with | [_, _], _ => rfl
    M_Pop_step := by rw [eC0]; exact ⟨a28, i28, k28⟩
    F_Push_step := F29
    b_Push_step := F29.binds (ps := ["self", "memory"]) fun _ _ _ _ _ _ us hl => match us, hl with | [_, _], _ => rfl
    M_Push_step := by rw [eC1]; exact ⟨a29, i29, k29⟩
    F_TakeAll_step := F30
    b_TakeAll_step := F30.binds (ps := ["self", "memory"]) fun _ _ _ _ _ _ us hl => match us, hl with | [_, _], _ => rfl
    M_TakeAll_step := by rw [eC2]; exact ⟨a30, i30, k30⟩
    F_law := F31
    b_law := F31.binds (ps := ["script"]) fun _ _ _ _ _ _ us hl => match us, hl with | [_], _ => rfl
    g_law := PySem.W.mg_of X G a31
    z_len := PySem.W.mg_none_of X G z_len
    z_abs := PySem.W.mg_none_of X G z_abs
    z_int := PySem.W.mg_none_of X G z_int
    z_range := PySem.W.mg_none_of X G z_range
    z_set := PySem.W.mg_none_of X G z_set
    gc_PAGES := ⟨_, [V.str (Str.ofString "pages")], PySem.W.mg_of X G gn_PAGES, .inr ⟨_, _, _, gl_PAGES, rfl, rfl, (show (1 : Nat) ≤ sizeLine by decide), (.cons ⟨_, rfl⟩ .nil)⟩, RVs.cons (rv_str _) (RVs.nil)⟩
    gc_READ_HEAD := ⟨_, PySem.W.mg_of X G gn_READ_HEAD, ⟨_, rfl⟩⟩
    gc_READ_CELL := ⟨_, PySem.W.mg_of X G gn_READ_CELL, ⟨_, rfl⟩⟩
    gc_WRITE_CELL := ⟨_, PySem.W.mg_of X G gn_WRITE_CELL, ⟨_, rfl⟩⟩
    gc_SWAP_HEAD := ⟨_, PySem.W.mg_of X G gn_SWAP_HEAD, ⟨_, rfl⟩⟩
  }
  exact ⟨_, fun s v => .of_eq rfl, fun base _ _ => law_ok LT (ok_law T)⟩
end Sy
open PySem PySem.W PyProof.Rows in
set_option maxRecDepth 100000 in
set_option maxHeartbeats 0 in
theorem PySem.Challenge.cw_slabwarren_k02_woven_stacks_holds : PySem.Challenge.rw_slabwarren_k02_woven_stacks.Holds := by
  w_on; o_law; k_head; (case hw => w_witness2)
  k_fill
  refine L2.walk_ofK (l := PySem.Challenge.rw_slabwarren_k02_woven_stacks) (n := 63) (k := 6) (x := "script") (CX := L2.CX0) (sp := fun K => Sy.spLaw K) rfl (by decide) rfl ⟨rfl, by decide, by decide⟩ (fun w h Y => PySem.W.kIn_of Y) ?F (fun K H a ns hl hO hS => Sy.spLaw_of hl hO hS) fun _ _ _ _ z => z
  case F =>
    intro w mg fa h KX G hmg
    refine' Sy.all_mk KX G hmg ?aC_C0 ?aC_C1 ?aC_C2 ?aC_C3 ?a0 ?l0 ?c0 ?k0 ?a1 ?l1 ?c1 ?k1 ?a2 ?l2 ?c2 ?k2 ?a3 ?i3 ?l3 ?c3 ?k3 ?a4 ?i4 ?l4 ?c4 ?k4 ?a5 ?i5 ?l5 ?c5 ?k5 ?a6 ?i6 ?l6 ?c6 ?k6 ?a7 ?i7 ?l7 ?c7 ?k7 ?a8 ?i8 ?l8 ?c8 ?k8 ?a9 ?i9 ?l9 ?c9 ?k9 ?a10 ?l10 ?c10 ?k10 ?a11 ?l11 ?c11 ?k11 ?a12 ?l12 ?c12 ?k12 ?a13 ?l13 ?c13 ?k13 ?a14 ?l14 ?c14 ?k14 ?a15 ?i15 ?l15 ?c15 ?k15 ?a16 ?i16 ?l16 ?c16 ?k16 ?a17 ?i17 ?l17 ?c17 ?k17 ?a18 ?i18 ?l18 ?c18 ?k18 ?a19 ?l19 ?c19 ?k19 ?a20 ?l20 ?c20 ?k20 ?a21 ?i21 ?l21 ?c21 ?k21 ?a22 ?i22 ?l22 ?c22 ?k22 ?a23 ?i23 ?l23 ?c23 ?k23 ?a24 ?i24 ?l24 ?c24 ?k24 ?a25 ?i25 ?l25 ?c25 ?k25 ?a26 ?i26 ?l26 ?c26 ?k26 ?a27 ?i27 ?l27 ?c27 ?k27 ?a28 ?i28 ?l28 ?c28 ?k28 ?a29 ?i29 ?l29 ?c29 ?k29 ?a30 ?i30 ?l30 ?c30 ?k30 ?a31 ?l31 ?c31 ?k31 ?pgC0 ?hdC0 ?poC0 ?saC0 ?mkC0 ?kcC0 ?pgC1 ?hdC1 ?poC1 ?saC1 ?mkC1 ?kcC1 ?pgC2 ?hdC2 ?poC2 ?saC2 ?mkC2 ?kcC2 ?pgC3 ?hdC3 ?poC3 ?saC3 ?mkC3 ?kcC3 ?n_head_C0 ?n_head_C1 ?n_head_C2 ?n_done_C0 ?n_done_C1 ?n_done_C2 ?n_result_C0 ?n_raw_C0 ?n_raw_C1 ?n_raw_C2 ?n_below_C0 ?n_stage_C0 ?n_stage_C1 ?n_stage_C2 ?n_item_C1 ?n_taken_C2 ?n_rest_C2 ?n_accesses_C3 ?n_cells_C3 ?z_len ?z_abs ?z_int ?z_range ?z_set ?gn_PAGES ?gl_PAGES ?gn_READ_HEAD ?gn_READ_CELL ?gn_WRITE_CELL ?gn_SWAP_HEAD Sy.law_true
    (case aC_C0 => k_is)
    (case aC_C1 => k_is)
    (case aC_C2 => k_is)
    (case aC_C3 => k_is)
    (case a0 => k_is)
    (case l0 => k_is)
    (case c0 => k_is)
    (case k0 => k_is)
    (case a1 => k_is)
    (case l1 => k_is)
    (case c1 => k_is)
    (case k1 => k_is)
    (case a2 => k_is)
    (case l2 => k_is)
    (case c2 => k_is)
    (case k2 => k_is)
    (case a3 => k_is)
    (case i3 => k_is)
    (case l3 => k_is)
    (case c3 => k_is)
    (case k3 => k_is)
    (case a4 => k_is)
    (case i4 => k_is)
    (case l4 => k_is)
    (case c4 => k_is)
    (case k4 => k_is)
    (case a5 => k_is)
    (case i5 => k_is)
    (case l5 => k_is)
    (case c5 => k_is)
    (case k5 => k_is)
    (case a6 => k_is)
    (case i6 => k_is)
    (case l6 => k_is)
    (case c6 => k_is)
    (case k6 => k_is)
    (case a7 => k_is)
    (case i7 => k_is)
    (case l7 => k_is)
    (case c7 => k_is)
    (case k7 => k_is)
    (case a8 => k_is)
    (case i8 => k_is)
    (case l8 => k_is)
    (case c8 => k_is)
    (case k8 => k_is)
    (case a9 => k_is)
    (case i9 => k_is)
    (case l9 => k_is)
    (case c9 => k_is)
    (case k9 => k_is)
    (case a10 => k_is)
    (case l10 => k_is)
    (case c10 => k_is)
    (case k10 => k_is)
    (case a11 => k_is)
    (case l11 => k_is)
    (case c11 => k_is)
    (case k11 => k_is)
    (case a12 => k_is)
    (case l12 => k_is)
    (case c12 => k_is)
    (case k12 => k_is)
    (case a13 => k_is)
    (case l13 => k_is)
    (case c13 => k_is)
    (case k13 => k_is)
    (case a14 => k_is)
    (case l14 => k_is)
    (case c14 => k_is)
    (case k14 => k_is)
    (case a15 => k_is)
    (case i15 => k_is)
    (case l15 => k_is)
    (case c15 => k_is)
    (case k15 => k_is)
    (case a16 => k_is)
    (case i16 => k_is)
    (case l16 => k_is)
    (case c16 => k_is)
    (case k16 => k_is)
    (case a17 => k_is)
    (case i17 => k_is)
    (case l17 => k_is)
    (case c17 => k_is)
    (case k17 => k_is)
    (case a18 => k_is)
    (case i18 => k_is)
    (case l18 => k_is)
    (case c18 => k_is)
    (case k18 => k_is)
    (case a19 => k_is)
    (case l19 => k_is)
    (case c19 => k_is)
    (case k19 => k_is)
    (case a20 => k_is)
    (case l20 => k_is)
    (case c20 => k_is)
    (case k20 => k_is)
    (case a21 => k_is)
    (case i21 => k_is)
    (case l21 => k_is)
    (case c21 => k_is)
    (case k21 => k_is)
    (case a22 => k_is)
    (case i22 => k_is)
    (case l22 => k_is)
    (case c22 => k_is)
    (case k22 => k_is)
    (case a23 => k_is)
    (case i23 => k_is)
    (case l23 => k_is)
    (case c23 => k_is)
    (case k23 => k_is)
    (case a24 => k_is)
    (case i24 => k_is)
    (case l24 => k_is)
    (case c24 => k_is)
    (case k24 => k_is)
    (case a25 => k_is)
    (case i25 => k_is)
    (case l25 => k_is)
    (case c25 => k_is)
    (case k25 => k_is)
    (case a26 => k_is)
    (case i26 => k_is)
    (case l26 => k_is)
    (case c26 => k_is)
    (case k26 => k_is)
    (case a27 => k_is)
    (case i27 => k_is)
    (case l27 => k_is)
    (case c27 => k_is)
    (case k27 => k_is)
    (case a28 => k_is)
    (case i28 => k_is)
    (case l28 => k_is)
    (case c28 => k_is)
    (case k28 => k_is)
    (case a29 => k_is)
    (case i29 => k_is)
    (case l29 => k_is)
    (case c29 => k_is)
    (case k29 => k_is)
    (case a30 => k_is)
    (case i30 => k_is)
    (case l30 => k_is)
    (case c30 => k_is)
    (case k30 => k_is)
    (case a31 => k_is)
    (case l31 => k_is)
    (case c31 => k_is)
    (case k31 => k_is)
    (case pgC0 => k_is)
    (case hdC0 => k_is)
    (case poC0 => k_is)
    (case saC0 => k_is)
    (case mkC0 => k_is)
    (case kcC0 => k_is)
    (case pgC1 => k_is)
    (case hdC1 => k_is)
    (case poC1 => k_is)
    (case saC1 => k_is)
    (case mkC1 => k_is)
    (case kcC1 => k_is)
    (case pgC2 => k_is)
    (case hdC2 => k_is)
    (case poC2 => k_is)
    (case saC2 => k_is)
    (case mkC2 => k_is)
    (case kcC2 => k_is)
    (case pgC3 => k_is)
    (case hdC3 => k_is)
    (case poC3 => k_is)
    (case saC3 => k_is)
    (case mkC3 => k_is)
    (case kcC3 => k_is)
    (case n_head_C0 => k_is)
    (case n_head_C1 => k_is)
    (case n_head_C2 => k_is)
    (case n_done_C0 => k_is)
    (case n_done_C1 => k_is)
    (case n_done_C2 => k_is)
    (case n_result_C0 => k_is)
    (case n_raw_C0 => k_is)
    (case n_raw_C1 => k_is)
    (case n_raw_C2 => k_is)
    (case n_below_C0 => k_is)
    (case n_stage_C0 => k_is)
    (case n_stage_C1 => k_is)
    (case n_stage_C2 => k_is)
    (case n_item_C1 => k_is)
    (case n_taken_C2 => k_is)
    (case n_rest_C2 => k_is)
    (case n_accesses_C3 => k_is)
    (case n_cells_C3 => k_is)
    (case z_len => k_is)
    (case z_abs => k_is)
    (case z_int => k_is)
    (case z_range => k_is)
    (case z_set => k_is)
    (case gn_PAGES => k_is)
    (case gl_PAGES => k_is)
    (case gn_READ_HEAD => k_is)
    (case gn_READ_CELL => k_is)
    (case gn_WRITE_CELL => k_is)
    (case gn_SWAP_HEAD => k_is)
