import PyProof.Rows.All
import Wide.All
import OpenK.AllK
import Wide.FinOn
import Lean
import PyProof.EqAt
import PyProof.EqKinds
import PyProof.TupleCall
import PySem.Challenge.RW_roundprice_k19_exchanged
set_option Elab.async false
set_option linter.all false
set_option maxRecDepth 100000
set_option genSizeOf false
set_option genSizeOfSpec false
set_option bootstrap.genMatcherCode false
namespace L2
open PySem PySem.Spec PyProof.Rows
noncomputable abbrev Key := Sum Int Str
noncomputable def keyIs : Key → Value → Bool
  | .inl k, v => Value.isInt k v
  | .inr x, v => Value.isStrOf x v
noncomputable def keyH (w : World) : Key → Int
  | .inl k => hashInt k
  | .inr x => hashStr w x
theorem keyIs_shape : ∀ {k : Key} {v : Value}, keyIs k v = true → (∃ i t, k = Sum.inl i ∧ v = Value.int i t) ∨ (∃ x t, k = Sum.inr x ∧ v = Value.str x t)
  | .inl i, v, h => by
    obtain ⟨t, e⟩ := Value.isInt_shape (k := i) (v := v) h
    exact .inl ⟨i, t, rfl, e⟩
  | .inr x, v, h => by
    obtain ⟨t, e⟩ := Value.isStrOf_shape (x := x) (v := v) h
    exact .inr ⟨x, t, rfl, e⟩
theorem key_ll (a b : Int) : decide ((Sum.inl a : Key) = Sum.inl b) = (a == b) := by
  by_cases e : a = b
  · subst e; simp
  · have h : ¬ (Sum.inl a : Key) = Sum.inl b := fun q => e (Sum.inl.inj q)
    rw [decide_eq_false h]
    exact (beq_eq_false_iff_ne.mpr e).symm
theorem key_rr (a b : Str) : decide ((Sum.inr a : Key) = Sum.inr b) = decide (a = b) := by
  by_cases e : a = b
  · subst e; simp
  · have h : ¬ (Sum.inr a : Key) = Sum.inr b := fun q => e (Sum.inr.inj q)
    rw [decide_eq_false h, decide_eq_false e]
theorem key_lr (a : Int) (b : Str) : decide ((Sum.inl a : Key) = Sum.inr b) = false := decide_eq_false (fun q => nomatch q)
theorem key_rl (a : Str) (b : Int) : decide ((Sum.inr a : Key) = Sum.inl b) = false := decide_eq_false (fun q => nomatch q)
noncomputable def mixKind (prog : Program) (w : World) : PySem.KeyKind prog w Key where
  is := keyIs
  hash := keyH w
  inj := fun v a b ha hb => by
    rcases keyIs_shape ha with ⟨i, t, rfl, rfl⟩ | ⟨x, t, rfl, rfl⟩
    · rcases keyIs_shape hb with ⟨j, u, rfl, e⟩ | ⟨y, u, rfl, e⟩
      · injection e with e1 _; rw [e1]
      · exact nomatch e
    · rcases keyIs_shape hb with ⟨j, u, rfl, e⟩ | ⟨y, u, rfl, e⟩
      · exact nomatch e
      · injection e with e1 _; rw [e1]
  byValue := fun k v h => by
    rcases keyIs_shape h with ⟨i, t, rfl, rfl⟩ | ⟨x, t, rfl, rfl⟩ <;> rfl
  pyHash := fun hv h => by
    rcases keyIs_shape hv with ⟨i, t, rfl, rfl⟩ | ⟨x, t, rfl, rfl⟩
    · exact wpAny_pyHash_int h
    · exact wpAny_pyHash_str h
  eqBool := fun hu hv h => by
    rcases keyIs_shape hu with ⟨i, t, rfl, rfl⟩ | ⟨x, t, rfl, rfl⟩
    · rcases keyIs_shape hv with ⟨j, u, rfl, rfl⟩ | ⟨y, u, rfl, rfl⟩
      · rw [key_ll] at h; exact wpAny_eqBool_int h
      · rw [key_lr] at h; exact SeqAt.EqAt.int_str i t y u _ _ _ _ h
    · rcases keyIs_shape hv with ⟨j, u, rfl, rfl⟩ | ⟨y, u, rfl, rfl⟩
      · rw [key_rl] at h; exact SeqAt.EqAt.str_int x t j u _ _ _ _ h
      · rw [key_rr] at h; exact wpAny_eqBool_str h
  «strs» := fun k x t v h => by
    rcases keyIs_shape h with ⟨i, u, rfl, e⟩ | ⟨y, u, rfl, e⟩
    · exact nomatch e
    · injection e with e1 _
      subst e1
      cases v <;> rfl
end L2
namespace L2
open PySem PySem.Spec PyProof.Rows
inductive V where
  | non | bl (b : Bool) | int (i : Int) | str (x : Str) | byt (b : Array UInt8) | flt (b : UInt64) | ref (a : Addr) | ty (n : String)
  deriving DecidableEq
noncomputable def RelV : V → Value → Prop
  | .non, u => u = Value.none
  | .bl b, u => u = Value.bool b
  | .int i, u => ∃ t, u = Value.int i t
  | .str x, u => ∃ t, u = Value.str x t
  | .byt b, u => ∃ t, u = Value.bytes b t
  | .flt b, u => ∃ t, u = Value.float b t
  | .ref a, u => u = Value.ref a
  | .ty n, u => u = Value.type n
noncomputable abbrev Vals : List V → List Value → Prop := Paired RelV
theorem Vals.length {xs : List V} {us : List Value} (r : Vals xs us) : xs.length = us.length := Paired.length r
theorem Vals.get : ∀ {xs : List V} {us : List Value} {i : Nat} {x : V}, Vals xs us → xs[i]? = some x → ∃ u, us[i]? = some u ∧ RelV x u
  | _, _, _, _, .nil, e => by simp at e
  | _, _, 0, _, .cons r _, e => by simp at e; subst e; exact ⟨_, rfl, r⟩
  | _, _, i + 1, x, .cons _ t, e => by
    obtain ⟨u, h1, h2⟩ := Vals.get (i := i) (x := x) t (by simpa using e)
    exact ⟨u, by simpa using h1, h2⟩
theorem Vals.set {x : V} {u : Value} (r : RelV x u) : ∀ {xs : List V} {us : List Value} (i : Nat), Vals xs us → Vals (xs.set i x) (us.set i u)
  | _, _, _, .nil => .nil
  | _, _, 0, .cons _ t => .cons r t
  | _, _, i + 1, .cons q t => .cons q (Vals.set r i t)
theorem Vals.append : ∀ {xs ys : List V} {us ws : List Value}, Vals xs us → Vals ys ws → Vals (xs ++ ys) (us ++ ws)
  | _, _, _, _, .nil, s => s
  | _, _, _, _, .cons r t, s => .cons r (Vals.append t s)
theorem Vals.take : ∀ {xs : List V} {us : List Value} (n : Nat), Vals xs us → Vals (xs.take n) (us.take n)
  | _, _, 0, _ => .nil
  | _, _, _ + 1, .nil => .nil
  | _, _, n + 1, .cons r t => .cons r (Vals.take n t)
theorem Vals.drop : ∀ {xs : List V} {us : List Value} (n : Nat), Vals xs us → Vals (xs.drop n) (us.drop n)
  | _, _, 0, r => r
  | _, _, _ + 1, .nil => .nil
  | _, _, n + 1, .cons _ t => Vals.drop n t
noncomputable def RelO : Option V → Option Value → Prop
  | some v, some u => RelV v u
  | none, none => True
  | _, _ => False
noncomputable def KV {κ : Type} : List (κ × V) → List (κ × Value) → Prop := Paired fun (p : κ × V) (q : κ × Value) => p.1 = q.1 ∧ RelV p.2 q.2
noncomputable def kV : Key → V
  | .inl i => .int i
  | .inr x => .str x
inductive HO where
  /-- a list -/
  | lst (xs : List V)
  /-- a tuple (never changes) -/
  | tup (xs : List V)
  /-- a dict whose keys are ints and texts; one whose keys are tuples of ints and texts (the empty one is both) -/
  | dK (kvs : List (Key × V)) | dT (kvs : List (List Key × V))
  /-- a set of ints: its members, its size -/
  | set (S : Int → Bool) (n : Nat)
  /-- an instance of the class at C, its dict at dx, its attributes -/
  | ins (C dx : Addr) (fs : List (Str × V))
  /-- the dict of the instance at x -/
  | own (x : Addr)
  /-- the dict of an exception -/
  | xd (fs : List (Str × V))
  /-- a bound method, f of x -/
  | met (f x : Addr)
  /-- a range object lo, lo + 1, .. below hi -/
  | rng (lo hi : Int)
  /-- a thing that is known to the object (the script; a dict while a loop walks it): read, never written while it is so -/
  | frz (o : Obj) (u : HO)
  /-- a code object's table -/
  | tbl (ps : Array Value)
  /-- any other thing, by what is true of its one object (a def of one's own: SetO a S n := HO.ext fun h => ..) -/
  | ext (φ : Heap → Prop)
noncomputable abbrev Hp := Addr → Option HO
noncomputable def upd (H : Hp) (a : Addr) (o : HO) : Hp := fun b => if b = a then some o else H b
theorem upd_same {H : Hp} {a : Addr} {o : HO} : upd H a o a = some o := by unfold upd; rw [if_pos rfl]
theorem upd_ne {H : Hp} {a b : Addr} {o : HO} (h : b ≠ a) : upd H a o b = H b := by unfold upd; rw [if_neg h]
theorem ne_of {H : Hp} {a b : Addr} {o u : HO} (h : H a = some o) (h' : H b = some u) (d : o ≠ u) : a ≠ b := by
  intro e; subst e; rw [h] at h'; exact d (Option.some.inj h')
theorem ne_of_none {H : Hp} {a b : Addr} {o : HO} (h : H a = some o) (h' : H b = none) : a ≠ b := by
  intro e; subst e; rw [h] at h'; cases h'
section
variable (P : Program) (w : World)
noncomputable def ObjOk (H : Hp) (h : Heap) (a : Addr) : HO → Prop
  | .lst xs => xs.length ≤ sizeLine ∧ ∃ (its : List Value) (n : Nat), Vals xs its ∧ h.get? a = some { cls := .type "list", data := .seq its.toArray n }
  | .tup xs => xs.length ≤ sizeLine ∧ ∃ its : List Value, Vals xs its ∧ IsTup h a its.toArray
  | .dK kvs => kvs.length ≤ sizeLine ∧ (a == sysModules) = false ∧ ∃ vs, KV kvs vs ∧ h.DictOf (mixKind P w) a vs
  | .dT kvs => kvs.length ≤ sizeLine ∧ (a == sysModules) = false ∧ ∃ xs : List (List Key × Addr × Value),
      Paired (fun (p : List Key × V) (q : List Key × Addr × Value) => p.1 = q.1 ∧ H q.2.1 = some (.tup (p.1.map kV)) ∧ RelV p.2 q.2.2) kvs xs ∧
      ∃ o es ep, h.get? a = some o ∧ o.ExactDict ∧ o.data = .dict es ep ∧ es.toList = xs.map (entryOfKey (tupleKind (mixKind P w))) ∧ (xs.map (·.1)).Nodup
  | .set S n => h.SetOf (intKind P w) a S n
  | .ins C dx fs => H dx = some (.own a) ∧ fs.length ≤ 1000 ∧ dx ≠ a ∧ h.get? a = some (PySem.W.instObj C dx) ∧
      ∃ mA, h.Ns1 dx mA ∧ (∀ f, RelO (fs.lookup f) (mA f)) ∧ PySem.Within mA (fs.map (·.1))
  | .own _ => ∃ o, h.get? a = some o
  | .xd fs => ∃ mA, h.Ns1 a mA ∧ ∀ f, RelO (fs.lookup f) (mA f)
  | .rng lo hi => ∃ t u v, h.get? a = some { cls := .type "range", data := .fields #[.int lo t, .int hi u, .int 1 v] }
  | .frz o u => h.get? a = some o ∧ ObjOk H h a u
  | .tbl ps => h.get? a = some { cls := .none, data := .fields ps }
  | .met f x => h.get? a = some (PySem.W.methodObj (.ref f) (.ref x))
  | .ext φ => φ h ∧ (∃ o, h.get? a = some o) ∧ ∀ h1 h2 : Heap, φ h1 → (∀ o, h1.get? a = some o → h2.get? a = some o) → φ h2
noncomputable def HOk (H : Hp) (h : Heap) : Prop := ∀ a o, H a = some o → ObjOk P w H h a o
end
section
variable {P : Program} {w : World} {H H' : Hp} {h h' : Heap} {a : Addr} {o : HO}
theorem ObjOk.lt (x : ObjOk P w H h a o) : a < h.objs.size := by
  cases o with
  | lst xs => obtain ⟨_, _, _, _, e⟩ := x; exact Heap.lt_size e
  | tup xs => obtain ⟨_, _, _, p⟩ := x; exact p.lt
  | dK kvs => obtain ⟨_, _, _, _, o, _, _, e, _⟩ := x; exact Heap.lt_size e
  | dT kvs => obtain ⟨_, _, _, _, o, _, _, e, _⟩ := x; exact Heap.lt_size e
  | set S n => obtain ⟨o, _, _, _, e, _⟩ := x; exact Heap.lt_size e
  | ins C dx fs => obtain ⟨_, _, _, e, _⟩ := x; exact Heap.lt_size e
  | own y => obtain ⟨_, e⟩ := x; exact Heap.lt_size e
  | xd fs => obtain ⟨_, ⟨_, _, _, e, _⟩, _⟩ := x; exact Heap.lt_size e
  | rng lo hi => obtain ⟨_, _, _, e⟩ := x; exact Heap.lt_size e
  | frz ob u => obtain ⟨e, _⟩ := x; exact Heap.lt_size e
  | tbl ps => exact Heap.lt_size (show h.get? a = some _ from x)
  | met f y => exact Heap.lt_size (show h.get? a = some _ from x)
  | ext φ => obtain ⟨_, ⟨_, e⟩, _⟩ := x; exact Heap.lt_size e
theorem Paired.mapP {α β : Type} {F G : α → β → Prop} : ∀ {l₁ : List α} {l₂ : List β}, Paired F l₁ l₂ → (∀ a b, F a b → G a b) → Paired G l₁ l₂
  | _, _, .nil, _ => .nil
  | _, _, .cons r t, f => .cons (f _ _ r) (Paired.mapP t f)
theorem ObjOk.stay (x : ObjOk P w H h a o) (k : ∀ b u, (b = a ∨ H b = some (.own a)) → h.get? b = some u → h'.get? b = some u)
    (ho : ∀ b, H b = some (.own a) → H' b = some (.own a)) (ht : ∀ b xs, H b = some (.tup xs) → H' b = some (.tup xs)) : ObjOk P w H' h' a o := by
  induction o with
  | lst xs => obtain ⟨z, its, n, r, e⟩ := x; exact ⟨z, its, n, r, k _ _ (.inl rfl) e⟩
  | tup xs => obtain ⟨z, its, r, ob, e, c⟩ := x; exact ⟨z, its, r, ob, k _ _ (.inl rfl) e, c⟩
  | dK kvs => obtain ⟨z, y, vs, r, ob, es, ep, e, c⟩ := x; exact ⟨z, y, vs, r, ob, es, ep, k _ _ (.inl rfl) e, c⟩
  | dT kvs =>
    obtain ⟨z, y, xs, r, ob, es, ep, e, c⟩ := x
    exact ⟨z, y, xs, Paired.mapP r fun p q z => ⟨z.1, ht _ _ z.2.1, z.2.2⟩, ob, es, ep, k _ _ (.inl rfl) e, c⟩
  | set S n => obtain ⟨ob, es, ep, t, e, c⟩ := x; exact ⟨ob, es, ep, t, k _ _ (.inl rfl) e, c⟩
  | ins C dx fs =>
    obtain ⟨d, z, ne, e, mA, ⟨od, es, ep, e2, c⟩, r⟩ := x
    exact ⟨ho _ d, z, ne, k _ _ (.inl rfl) e, mA, ⟨od, es, ep, k _ _ (.inr d) e2, c⟩, r⟩
  | own y => obtain ⟨ob, e⟩ := x; exact ⟨ob, k _ _ (.inl rfl) e⟩
  | xd fs => obtain ⟨mA, ⟨od, es, ep, e, c⟩, r⟩ := x; exact ⟨mA, ⟨od, es, ep, k _ _ (.inl rfl) e, c⟩, r⟩
  | rng lo hi => obtain ⟨t, u, v, e⟩ := x; exact ⟨t, u, v, k _ _ (.inl rfl) e⟩
  | frz ob u ih => obtain ⟨e, q⟩ := x; exact ⟨k _ _ (.inl rfl) e, ih q⟩
  | tbl ps =>
    have e : h.get? a = some { cls := .none, data := .fields ps } := x
    show h'.get? a = some { cls := .none, data := .fields ps }
    exact k a _ (.inl rfl) e
  | met f y =>
    have e : h.get? a = some (PySem.W.methodObj (.ref f) (.ref y)) := x
    show h'.get? a = some (PySem.W.methodObj (.ref f) (.ref y))
    exact k a _ (.inl rfl) e
  | ext φ => obtain ⟨p, ⟨o, e⟩, st⟩ := x; exact ⟨st _ _ p fun o q => k _ _ (.inl rfl) q, ⟨o, k _ _ (.inl rfl) e⟩, st⟩
theorem HOk.lt (x : HOk P w H h) (e : H a = some o) : a < h.objs.size := (x a o e).lt
theorem HOk.fresh (x : HOk P w H h) (e : h.objs.size ≤ a) : H a = none := by
  cases q : H a with
  | none => rfl
  | some u => exact absurd (Nat.lt_of_lt_of_le (x.lt q) e) (Nat.lt_irrefl _)
theorem HOk.kept (x : HOk P w H h) (k : ∀ b u, h.get? b = some u → h'.get? b = some u) : HOk P w H h' := fun a o e =>
  (x a o e).stay (fun b u _ q => k b u q) (fun _ q => q) fun _ _ q => q
theorem HOk.laid (x : HOk P w H h) (k : ∀ b u, h.get? b = some u → h'.get? b = some u) (hp : h.objs.size ≤ a) (new : ObjOk P w (upd H a o) h' a o) : HOk P w (upd H a o) h' := fun b u e => by
  have hn := x.fresh hp
  by_cases hb : b = a
  · subst hb; rw [upd_same] at e; cases e; exact new
  · rw [upd_ne hb] at e
    exact (x b u e).stay (fun c v _ q => k c v q) (fun c q => by rw [upd_ne (ne_of_none q hn)]; exact q) fun c xs q => by rw [upd_ne (ne_of_none q hn)]; exact q
end
noncomputable def Rd (H : Hp) (a : Addr) (u : HO) : Prop := H a = some u ∨ ∃ o, H a = some (.frz o u)
theorem Rd.of {H : Hp} {a : Addr} {u : HO} (h : H a = some u) : Rd H a u := .inl h
theorem Rd.ok {P : Program} {w : World} {H : Hp} {h : Heap} {a : Addr} {u : HO} (r : Rd H a u) (x : HOk P w H h) : ObjOk P w H h a u := by
  rcases r with r | ⟨o, r⟩
  · exact x a u r
  · obtain ⟨_, q⟩ := x a _ r
    exact q
noncomputable def Mut : Option HO → Prop
  | some (.lst _) => True
  | some (.dK _) => True
  | some (.dT _) => True
  | some (.set _ _) => True
  | some (.ins _ _ _) => True
  | some (.ext _) => True
  | _ => False
section
variable {P : Program} {w : World} {H : Hp} {h h' : Heap} {x e : Addr} {o' : HO}
theorem HOk.write (ok : HOk P w H h) (mu : Mut (H x)) (he : e = x ∨ H e = some (.own x)) (k : ∀ b u, b ≠ e → h.get? b = some u → h'.get? b = some u) (heo : ∃ u, h'.get? e = some u)
    (new : ObjOk P w (upd H x o') h' x o') : HOk P w (upd H x o') h' := fun b u q => by
  have nown : ∀ c y, H c = some (.own y) → c ≠ x := fun c y r z => by subst z; rw [r] at mu; exact mu
  have ntup : ∀ c xs, H c = some (.tup xs) → c ≠ x := fun c xs r z => by subst z; rw [r] at mu; exact mu
  by_cases hb : b = x
  · subst hb; rw [upd_same] at q; cases q; exact new
  · rw [upd_ne hb] at q
    by_cases hbe : b = e
    · have q' : H b = some (.own x) := by
        rcases he with z | z
        · exact absurd (hbe.trans z) hb
        · rw [hbe]; exact z
      rw [q] at q'; cases q'
      obtain ⟨v, hv⟩ := heo
      exact ⟨v, by rw [hbe]; exact hv⟩
    · refine (ok b u q).stay (fun c v hc r => k c v ?_ r) (fun c r => by rw [upd_ne (nown c b r)]; exact r) fun c xs r => by rw [upd_ne (ntup c xs r)]; exact r
      rcases hc with rfl | hc
      · exact hbe
      · rintro rfl
        rcases he with z | z
        · exact nown c b hc z
        · rw [hc] at z; cases z; exact hb rfl
end
structure Un (fs ex : List Addr) (H H' : Hp) (h h' : Heap) : Prop where
  keep : ∀ b o, h.get? b = some o → H b = none → b ∉ fs → b ∉ ex → h'.get? b = some o
  slot : ∀ b o, h.get? b = some o → H b = none → b ∈ fs → b ∉ ex → ∃ sl, h'.get? b = some { o with slots := sl }
  free : ∀ b o, h.get? b = some o → H b = none → b ∉ ex → H' b = none
  there : ∀ b o, h.get? b = some o → b ∉ ex → ∃ o', h'.get? b = some o'
  tups : ∀ b xs, H b = some (.tup xs) → H' b = some (.tup xs)
  frzs : ∀ b o u, H b = some (.frz o u) → H' b = some (.frz o u)
  tbls : ∀ b ps, H b = some (.tbl ps) → ∃ more, H' b = some (.tbl (ps ++ more))
section
variable {fs fs' ex ex' : List Addr} {H H1 H2 : Hp} {h h1 h2 h' : Heap} {a x e : Addr} {o : HO}
theorem Un.any (u : Un fs ex H H1 h h1) {b : Addr} {ob : Obj} (q : h.get? b = some ob) (n : H b = none) (hx : b ∉ ex) : ∃ sl, h1.get? b = some { ob with slots := sl } := by
  by_cases hb : b ∈ fs
  · exact u.slot b ob q n hb hx
  · exact ⟨ob.slots, u.keep b ob q n hb hx⟩
theorem Un.trans (a : Un fs ex H H1 h h1) (b : Un fs ex H1 H2 h1 h2) : Un fs ex H H2 h h2 where
  keep := fun c ob q n hc hx => b.keep c ob (a.keep c ob q n hc hx) (a.free c ob q n hx) hc hx
  slot := fun c ob q n hc hx => by
    obtain ⟨sl, e1⟩ := a.slot c ob q n hc hx
    obtain ⟨sl', e2⟩ := b.slot c _ e1 (a.free c ob q n hx) hc hx
    exact ⟨sl', e2⟩
  free := fun c ob q n hx => by
    obtain ⟨o', e1⟩ := a.there c ob q hx
    exact b.free c o' e1 (a.free c ob q n hx) hx
  there := fun c ob q hx => by
    obtain ⟨o', e1⟩ := a.there c ob q hx
    exact b.there c o' e1 hx
  tups := fun c xs q => b.tups c xs (a.tups c xs q)
  frzs := fun c ob xs q => b.frzs c ob xs (a.frzs c ob xs q)
  tbls := fun c ps q => by
    obtain ⟨m1, e1⟩ := a.tbls c ps q
    obtain ⟨m2, e2⟩ := b.tbls c _ e1
    exact ⟨m1 ++ m2, by rw [e2, Array.append_assoc]⟩
theorem Un.kept (k : ∀ b u, h.get? b = some u → h'.get? b = some u) : Un fs ex H H h h' :=
  ⟨fun b ob q _ _ _ => k b ob q, fun b ob q _ _ _ => ⟨ob.slots, k b ob q⟩, fun _ _ _ n _ => n, fun b ob q _ => ⟨ob, k b ob q⟩, fun _ _ q => q, fun _ _ _ q => q, fun _ ps q => ⟨#[], by rw [q]; simp⟩⟩
theorem Un.refl : Un fs ex H H h h := Un.kept fun _ _ q => q
theorem Un.laid (k : ∀ b u, h.get? b = some u → h'.get? b = some u) (hp : h.objs.size ≤ a) (hn : H a = none) : Un fs ex H (upd H a o) h h' where
  keep := fun b u q _ _ _ => k b u q
  slot := fun b u q _ _ _ => ⟨u.slots, k b u q⟩
  free := fun b u q n _ => by rw [upd_ne (Nat.ne_of_lt (Nat.lt_of_lt_of_le (Heap.lt_size q) hp))]; exact n
  there := fun b u q _ => ⟨u, k b u q⟩
  tups := fun b xs q => by rw [upd_ne (ne_of_none q hn)]; exact q
  frzs := fun b u xs q => by rw [upd_ne (ne_of_none q hn)]; exact q
  tbls := fun b ps q => ⟨#[], by rw [upd_ne (ne_of_none q hn), q]; simp⟩
theorem Un.write (mu : Mut (H x)) (he : e = x ∨ H e = some (.own x)) (k : ∀ b u, b ≠ e → h.get? b = some u → h'.get? b = some u) (heo : ∃ u, h'.get? e = some u) : Un fs ex H (upd H x o) h h' := by
  have hx : ∀ b, H b = none → b ≠ x := fun b n z => by subst z; rw [n] at mu; exact mu
  have hb : ∀ b, H b = none → b ≠ e := fun b n z => by
    subst z
    rcases he with r | r
    · exact hx b n r
    · rw [n] at r; cases r
  have hm : ∀ b u, H b = some u → ¬ Mut (some u) → b ≠ x := fun b u q nm z => by subst z; rw [q] at mu; exact nm mu
  refine ⟨fun b u q n _ _ => k b u (hb b n) q, fun b u q n _ _ => ⟨u.slots, k b u (hb b n) q⟩, fun b u q n _ => by rw [upd_ne (hx b n)]; exact n, fun b u q _ => ?_,
    fun b xs q => by rw [upd_ne (hm b _ q fun z => z)]; exact q, fun b u xs q => by rw [upd_ne (hm b _ q fun z => z)]; exact q, fun b ps q => ⟨#[], by rw [upd_ne (hm b _ q fun z => z), q]; simp⟩⟩
  by_cases hbe : b = e
  · subst hbe; exact heo
  · exact ⟨u, k b u hbe q⟩
theorem Un.mono (u : Un fs ex H H1 h h1) (hs : ∀ b ∈ fs, b ∈ fs') (hx : ∀ b ∈ ex, b ∈ ex') : Un fs' ex' H H1 h h1 :=
  ⟨fun b ob q n hb he => u.keep b ob q n (fun z => hb (hs b z)) fun z => he (hx b z), fun _ _ q n _ he => u.any q n fun z => he (hx _ z), fun b ob q n he => u.free b ob q n fun z => he (hx b z), fun b ob q he => u.there b ob q fun z => he (hx b z), u.tups, u.frzs, u.tbls⟩
end
noncomputable def trk (h : Heap) (H : Hp) : List Addr := (List.range h.objs.size).filter fun a => (H a).isSome
noncomputable def hidT (h : Heap) (H : Hp) : Heap := PySem.W.hideAll h (trk h H)
theorem hidT_size (h : Heap) (H : Hp) : (hidT h H).objs.size = h.objs.size := PySem.W.hideAll_size _ _
theorem hidT_get {h : Heap} {H : Hp} {b : Addr} {o : Obj} (e : h.get? b = some o) (n : H b = none) : (hidT h H).get? b = some o :=
  PySem.W.hideAll_get _ e fun hm => by
    have q : (H b).isSome = true := (List.mem_filter.mp hm).2
    rw [n] at q; simp at q
theorem of_hidT {h : Heap} {H : Hp} {b : Addr} {o : Obj} (e : (hidT h H).get? b = some o) : h.get? b = some o ∧ H b = none := by
  have e' : h.get? b = some o := PySem.W.of_hideAll (trk h H) e
  refine ⟨e', ?_⟩
  cases q : H b with
  | none => rfl
  | some x =>
    have hm : b ∈ trk h H := List.mem_filter.mpr ⟨List.mem_range.mpr (Heap.lt_size e'), by simp [q]⟩
    have z : (hidT h H).get? b = none := PySem.W.hideAll_none (trk h H) hm
    rw [z] at e; cases e
noncomputable def allNews (g h : Heap) (L : Addr) : List (Addr × Obj) := (List.range h.objs.size).filterMap fun a => if a = L ∨ (g.get? a).isSome = true then none else (h.get? a).map fun o => (a, o)
noncomputable def rest (g h : Heap) (L d : Addr) : List (Addr × Obj) := (allNews g h L).filter fun p => decide (p.1 ≠ d)
end L2
namespace L2
open PySem PySem.Spec PyProof.Rows
structure Mod (K : PySem.W.Frag) (mg : Str → Option Value) (base : Heap) : Prop where
  kin : K.In base
  glob : base.Ns mainGlobals mg
  blt : ∃ mb, base.Ns builtinsNs mb ∧ ∀ x : Str, x ≠ "__name__" → mb x = bootBuiltins x
  nolimit : base.NoLimit
structure Cx where
  prog : Program
  w : World
  K : PySem.W.Frag
  mg : Str → Option Value
  base : Heap
  A : Around
  N : List Str
  s₀ : Shared
  H₀ : Hp
  env : Env
  outer : List Env
  stack : List Env
  ex : List Addr
  fn : Str → Bool
  calm : Bool
  pn : List (Addr × Obj)
  xe : Value → Shared → Prop
noncomputable def frs (l : List Env) : List Addr := l.filterMap (·.frame)
noncomputable abbrev Cx.fs (X : Cx) : List Addr := frs X.outer
noncomputable def Vis (sc : Scope) (x : Str) : Prop := sc.names.lookup x = some .local ∨ sc.names.lookup x = some .cell ∨ sc.names.lookup x = some .free
noncomputable def Loc (sc : Scope) (x : Str) : Prop := sc.names.lookup x = some .local ∨ sc.names.lookup x = some .cell
noncomputable def Look (env : Env) (h : Heap) (m : Str → Option Value) (x : Str) (u : Value) : Prop :=
  (env.kindOf x = some .local ∧ m x = some u) ∨ ((env.kindOf x = some .cell ∨ env.kindOf x = some .free) ∧ ∃ c, env.cells.lookup x = some c ∧ h.IsCell c (some u))
structure Cx.Ok (X : Cx) : Prop where
  mod : Mod X.K X.mg X.base
  kind : X.env.scope.kind = .function
  glob : X.env.globals = mainGlobals
  blt : X.env.builtins = builtinsNs
  above : X.s₀.heap.objs.size ≤ X.env.locals
  inj : ∀ x y c, X.env.cells.lookup x = some c → X.env.cells.lookup y = some c → x = y
  has : ∀ x, (X.env.kindOf x = some .cell ∨ X.env.kindOf x = some .free) → ∃ c, X.env.cells.lookup x = some c
  cab : ∀ x c, X.fn x = true → X.env.cells.lookup x = some c → X.s₀.heap.objs.size ≤ c
  hd : X.calm = true → X.A.handled = none
  frames : X.A.frames = some X.stack
  stk : X.stack = X.outer ∨ (X.stack = X.env :: X.outer ∧ X.env.frame = some X.env.locals)
  exf : ∀ b ∈ X.ex, b ≠ X.env.locals ∧ ∀ x c, X.env.cells.lookup x = some c → c ≠ b
  bs : ∀ b o, X.base.get? b = some o → X.s₀.heap.get? b = some o ∧ X.H₀ b = none
  bsz : X.base.objs.size ≤ X.s₀.heap.objs.size
  noex : ∀ b o, X.base.get? b = some o → b ∉ X.ex
  exfs : ∀ b ∈ X.ex, b ∉ X.fs
  funs : X.s₀.heap.FunFrames X.base X.outer
  frf : ∀ b ∈ X.fs, X.H₀ b = none
structure Inv (X : Cx) (pins : List (Addr × Obj)) (σ : List (Option V)) (H : Hp) (s : Shared) : Prop where
  ok : X.Ok
  os : s.os = X.s₀.os
  bare : AllBare s.gens
  base : Un X.fs X.ex X.H₀ H X.s₀.heap s.heap
  loc : ∃ m, s.heap.Ns X.env.locals m ∧ ∀ (i : Nat) (x : Str) (v : V), X.N[i]? = some x → σ[i]? = some (some v) → Vis X.env.scope x → ∃ u, RelV v u ∧ Look X.env s.heap m x u
  cell : ∀ x c, X.env.cells.lookup x = some c → ∃ v, s.heap.IsCell c v
  free : H X.env.locals = none
  freeC : ∀ x c, X.env.cells.lookup x = some c → H c = none
  pin : ∀ p ∈ X.pn ++ pins, s.heap.get? p.1 = some p.2 ∧ H p.1 = none ∧ p.1 ≠ X.env.locals ∧ p.1 ∉ X.fs ∧ ∀ v, p.2.data ≠ .cell v
  hok : HOk X.prog X.w H s.heap
  len : σ.length = X.N.length
section
variable {X : Cx} {pins : List (Addr × Obj)} {σ : List (Option V)} {H H' : Hp} {s : Shared} {h' : Heap}
theorem Cx.Ok.nofr (ok : X.Ok) {b : Addr} {o : Obj} (e : X.base.get? b = some o) : b ∉ X.fs := fun hb => by
  have := (ok.funs.mem hb).1
  rw [e] at this; cases this
theorem Inv.bs (I : Inv X pins σ H s) : ∀ b o, X.base.get? b = some o → s.heap.get? b = some o ∧ H b = none := fun b o e =>
  ⟨I.base.keep b o (I.ok.bs b o e).1 (I.ok.bs b o e).2 (I.ok.nofr e) (I.ok.noex b o e), I.base.free b o (I.ok.bs b o e).1 (I.ok.bs b o e).2 (I.ok.noex b o e)⟩
theorem Inv.bk (I : Inv X pins σ H s) : ∀ b o, X.base.get? b = some o → s.heap.get? b = some o := fun b o e => (I.bs b o e).1
theorem Inv.mod (I : Inv X pins σ H s) : Mod X.K X.mg X.base := I.ok.mod
theorem Inv.kIn (I : Inv X pins σ H s) : X.K.In s.heap := I.ok.mod.kin.keeps I.bk
theorem Inv.nolimit (I : Inv X pins σ H s) : s.heap.NoLimit := I.ok.mod.nolimit.keeps I.bk
theorem Inv.fr (I : Inv X pins σ H s) : ∃ m, Fr X.base X.env.locals s.heap m :=
  let ⟨m, hn, _⟩ := I.loc
  ⟨m, hn, I.bk, Nat.le_trans I.ok.bsz I.ok.above⟩
theorem Inv.lt (I : Inv X pins σ H s) : X.env.locals < s.heap.objs.size := let ⟨_, hn, _⟩ := I.loc; hn.lt
theorem Inv.sz (I : Inv X pins σ H s) : X.s₀.heap.objs.size ≤ s.heap.objs.size := Nat.le_trans I.ok.above (Nat.le_of_lt I.lt)
theorem Inv.nofs (I : Inv X pins σ H s) {a : Addr} (h : s.heap.objs.size ≤ a) : a ∉ X.fs := fun hb => by
  obtain ⟨_, o, ho, _⟩ := I.ok.funs.mem hb
  exact absurd (Nat.lt_of_lt_of_le (Heap.lt_size ho) (Nat.le_trans I.sz h)) (Nat.lt_irrefl _)
theorem Inv.cne (I : Inv X pins σ H s) : ∀ x c, X.env.cells.lookup x = some c → c ≠ X.env.locals := fun x c e z => by
  obtain ⟨v, o, ho, hd⟩ := I.cell x c e
  obtain ⟨m, ⟨o', es, ep, ho', hd', _⟩, _⟩ := I.loc
  rw [z, ho'] at ho; cases ho; rw [hd'] at hd; cases hd
theorem Inv.funs (I : Inv X pins σ H s) : s.heap.FunFrames X.base X.outer := by
  have all : ∀ (l : List Env), (∀ b ∈ frs l, b ∈ X.fs) → X.s₀.heap.FunFrames X.base l → s.heap.FunFrames X.base l := by
    intro l
    induction l with
    | nil => intro _ _; trivial
    | cons env r ih =>
      intro hs hl
      obtain ⟨hk, ⟨L, o, hf, hn, ho, hd⟩, hr⟩ := hl
      have hL : L ∈ X.fs := hs L (by unfold frs; rw [List.filterMap_cons, hf]; exact List.mem_cons_self)
      obtain ⟨sl, e⟩ := I.base.slot L o ho (I.ok.frf L hL) hL fun z => I.ok.exfs L z hL
      exact ⟨hk, ⟨L, _, hf, hn, e, hd⟩, ih (fun b hb => hs b (by unfold frs; rw [List.filterMap_cons, hf]; exact List.mem_cons_of_mem _ hb)) hr⟩
  exact all X.outer (fun _ hb => hb) I.ok.funs
theorem Inv.stack (I : Inv X pins σ H s) : s.heap.FunFrames X.base X.stack := by
  rcases I.ok.stk with e | ⟨e, hf⟩
  · rw [e]; exact I.funs
  · rw [e]
    obtain ⟨m, hn, _⟩ := I.loc
    refine .cons (by rw [I.ok.kind]; decide) hf hn ?_ I.funs
    exact Heap.get?_none_of_le (Nat.le_trans I.ok.bsz I.ok.above)
theorem Inv.stkSub (I : Inv X pins σ H s) : ∀ b ∈ frs X.stack, b ∈ X.env.locals :: X.fs := fun b hb => by
  rcases I.ok.stk with e | ⟨e, hf⟩
  · rw [e] at hb; exact List.mem_cons_of_mem _ hb
  · rw [e] at hb
    unfold frs at hb
    rw [List.filterMap_cons, hf] at hb
    exact hb
theorem Inv.stkFree (I : Inv X pins σ H s) : ∀ b ∈ frs X.stack, H b = none := fun b hb => by
  rcases List.mem_cons.mp (I.stkSub b hb) with e | hb
  · rw [e]; exact I.free
  · obtain ⟨_, o, ho, _⟩ := I.ok.funs.mem hb
    exact I.base.free b o ho (I.ok.frf b hb) fun z => I.ok.exfs b z hb
theorem Inv.step {g' : Array GenState} {t' : Nat} {d' : Drawn} {ch : List Addr} (I : Inv X pins σ H s)
    (hch : ∀ b ∈ ch, (b ∈ X.ex ∨ X.s₀.heap.objs.size ≤ b) ∧ b ≠ X.env.locals ∧ (∀ x c, X.env.cells.lookup x = some c → c ≠ b) ∧ ∀ p ∈ X.pn ++ pins, p.1 ≠ b)
    (keep : ∀ b o, b ≠ X.env.locals → b ∉ X.fs → b ∉ ch → s.heap.get? b = some o → H b = none → h'.get? b = some o)
    (slot : ∀ b o, b ≠ X.env.locals → b ∈ X.fs → b ∉ ch → s.heap.get? b = some o → H b = none → ∃ sl, h'.get? b = some { o with slots := sl }) (free : ∀ b o, b ∉ ch → s.heap.get? b = some o → H b = none → H' b = none)
    (there : ∀ b o, b ∉ ch → s.heap.get? b = some o → ∃ o', h'.get? b = some o')
    (tups : ∀ b xs, H b = some (.tup xs) → H' b = some (.tup xs)) (frzs : ∀ b o u, H b = some (.frz o u) → H' b = some (.frz o u)) (tbls : ∀ b ps, H b = some (.tbl ps) → ∃ more, H' b = some (.tbl (ps ++ more)))
    (ns : ∀ m, s.heap.Ns X.env.locals m → h'.Ns X.env.locals m) (hok : HOk X.prog X.w H' h') (hg : AllBare g') :
    Inv X pins σ H' { s with heap := h', gens := g', drawn := d', toks := t' } := by
  have neL : ∀ b o, X.s₀.heap.get? b = some o → b ≠ X.env.locals := fun b o e => Nat.ne_of_lt (Nat.lt_of_lt_of_le (Heap.lt_size e) I.ok.above)
  have neC : ∀ b o, X.s₀.heap.get? b = some o → b ∉ X.ex → b ∉ ch := fun b o e hx hb => by
    rcases (hch b hb).1 with z | z
    · exact hx z
    · exact absurd (Nat.lt_of_lt_of_le (Heap.lt_size e) z) (Nat.lt_irrefl _)
  have cellK : ∀ x c, X.env.cells.lookup x = some c → ∀ v, s.heap.IsCell c v → h'.IsCell c v := fun x c e v ⟨o, ho, hd⟩ => by
    have nch : c ∉ ch := fun z => (hch c z).2.2.1 x c e rfl
    by_cases hc : c ∈ X.fs
    · obtain ⟨sl, q⟩ := slot c o (I.cne x c e) hc nch ho (I.freeC x c e)
      exact ⟨_, q, hd⟩
    · exact ⟨o, keep c o (I.cne x c e) hc nch ho (I.freeC x c e), hd⟩
  refine ⟨I.ok, I.os, hg, ⟨fun b o e n hb hx => ?_, fun b o e n hb hx => ?_, fun b o e n hx => ?_, fun b o e hx => ?_, fun b xs e => tups b xs (I.base.tups b xs e), fun b o xs e => frzs b o xs (I.base.frzs b o xs e), fun b ps e => ?_⟩, ?_, fun x c e => ?_, ?_, fun x c e => ?_, fun p hp => ?_, hok, I.len⟩
  · exact keep b o (neL b o e) hb (neC b o e hx) (I.base.keep b o e n hb hx) (I.base.free b o e n hx)
  · obtain ⟨sl, e1⟩ := I.base.slot b o e n hb hx
    obtain ⟨sl', e2⟩ := slot b _ (neL b o e) hb (neC b o e hx) e1 (I.base.free b o e n hx)
    exact ⟨sl', e2⟩
  · obtain ⟨o', e1⟩ := I.base.there b o e hx
    exact free b o' (neC b o e hx) e1 (I.base.free b o e n hx)
  · obtain ⟨o', e1⟩ := I.base.there b o e hx
    exact there b o' (neC b o e hx) e1
  · obtain ⟨m1, e1⟩ := I.base.tbls b ps e
    obtain ⟨m2, e2⟩ := tbls b _ e1
    exact ⟨m1 ++ m2, by rw [e2, Array.append_assoc]⟩
  · obtain ⟨m, hn, hl⟩ := I.loc
    refine ⟨m, ns m hn, fun i x v e1 e2 e3 => ?_⟩
    obtain ⟨u, r, l⟩ := hl i x v e1 e2 e3
    refine ⟨u, r, ?_⟩
    rcases l with l | ⟨k, c, e, z⟩
    · exact .inl l
    · exact .inr ⟨k, c, e, cellK x c e _ z⟩
  · obtain ⟨v, z⟩ := I.cell x c e
    exact ⟨v, cellK x c e v z⟩
  · obtain ⟨m, ⟨o, _, _, ho, _⟩, _⟩ := I.loc
    exact free _ o (fun z => (hch _ z).2.1 rfl) ho I.free
  · obtain ⟨v, o, ho, hd⟩ := I.cell x c e
    exact free c o (fun z => (hch c z).2.2.1 x c e rfl) ho (I.freeC x c e)
  · obtain ⟨e, n, ne, nf, d⟩ := I.pin p hp
    have nch : p.1 ∉ ch := fun z => (hch p.1 z).2.2.2 p hp rfl
    exact ⟨keep p.1 p.2 ne nf nch e n, free p.1 p.2 nch e n, ne, nf, d⟩
theorem Inv.un {t' : Nat} (I : Inv X pins σ H s) (u : Un X.fs [] H H' s.heap h') (hok : HOk X.prog X.w H' h') : Inv X pins σ H' { s with heap := h', toks := t' } := by
  obtain ⟨m, ⟨o, es, ep, ho, r⟩, _⟩ := id I.loc
  obtain ⟨sl, hL⟩ := u.any ho I.free (by simp)
  exact I.step (g' := s.gens) (d' := s.drawn) (ch := []) (fun _ z => nomatch z) (fun b o _ hb _ e n => u.keep b o e n hb (by simp)) (fun b o _ hb _ e n => u.slot b o e n hb (by simp)) (fun b o _ e n => u.free b o e n (by simp)) (fun b o _ e => u.there b o e (by simp)) u.tups u.frzs u.tbls (fun m' hm => by
    obtain ⟨o', es', ep', ho', r'⟩ := hm
    rw [ho] at ho'; cases ho'
    exact ⟨_, es', ep', hL, r'⟩) hok I.bare
theorem Inv.call {g' : Array GenState} {t' : Nat} {d' : Drawn} {ch : List Addr} (I : Inv X pins σ H s) (u : Un (frs X.stack) ch H H' s.heap h') (hok : HOk X.prog X.w H' h') (hg : AllBare g')
    (hch : ∀ b ∈ ch, (b ∈ X.ex ∨ X.s₀.heap.objs.size ≤ b) ∧ b ≠ X.env.locals ∧ (∀ x c, X.env.cells.lookup x = some c → c ≠ b) ∧ ∀ p ∈ X.pn ++ pins, p.1 ≠ b) :
    Inv X pins σ H' { s with heap := h', gens := g', drawn := d', toks := t' } := by
  obtain ⟨m, ⟨o, es, ep, ho, r⟩, _⟩ := id I.loc
  obtain ⟨sl, hL⟩ := u.any ho I.free fun z => (hch _ z).2.1 rfl
  exact I.step (ch := ch) hch (fun b o hL hb hc e n => u.keep b o e n (fun z => (List.mem_cons.mp (I.stkSub b z)).elim hL hb) hc) (fun b o _ _ hc e n => u.any e n hc) (fun b o hc e n => u.free b o e n hc) (fun b o hc e => u.there b o e hc) u.tups u.frzs u.tbls (fun m' hm => by
    obtain ⟨o', es', ep', ho', r'⟩ := hm
    rw [ho] at ho'; cases ho'
    exact ⟨_, es', ep', hL, r'⟩) hok hg
theorem Inv.turned {t' : Nat} {it : Addr} (I : Inv X pins σ H s) (k : ∀ b o, b ≠ it → s.heap.get? b = some o → h'.get? b = some o) (hn : H it = none) (hL : it ≠ X.env.locals)
    (h1 : it ∈ X.ex ∨ X.s₀.heap.objs.size ≤ it) (h2 : ∀ x c, X.env.cells.lookup x = some c → c ≠ it) (h3 : ∀ p ∈ X.pn ++ pins, p.1 ≠ it) : Inv X pins σ H { s with heap := h', toks := t' } := by
  have nit : ∀ b u, H b = some u → b ≠ it := fun b u e z => by rw [z, hn] at e; cases e
  refine I.step (g' := s.gens) (d' := s.drawn) (ch := [it]) (fun b hb => ?_) (fun b o _ _ hc e _ => k b o (fun z => hc (by simp [z])) e) (fun b o _ _ hc e _ => ⟨o.slots, k b o (fun z => hc (by simp [z])) e⟩) (fun _ _ _ _ n => n)
    (fun b o hc e => ⟨o, k b o (fun z => hc (by simp [z])) e⟩) (fun _ _ e => e) (fun _ _ _ e => e) (fun b ps e => ⟨#[], by rw [e]; simp⟩) (fun m hm => ?_) (fun b u e => ?_) I.bare
  · have e : b = it := by simpa using hb
    subst e
    exact ⟨h1, hL, h2, h3⟩
  · obtain ⟨o, es, ep, ho, r⟩ := hm
    exact ⟨o, es, ep, k _ o (Ne.symm hL) ho, r⟩
  · refine (I.hok b u e).stay (fun c v hc q => k c v ?_ q) (fun _ q => q) fun _ _ q => q
    rcases hc with z | z
    · rw [z]; exact nit b u e
    · exact nit c _ z
theorem Inv.tok (I : Inv X pins σ H s) (t : Nat) : Inv X pins σ H { s with toks := t } := I.un (h' := s.heap) (t' := t) Un.refl I.hok
theorem Inv.kept {t' : Nat} (I : Inv X pins σ H s) (k : ∀ b u, s.heap.get? b = some u → h'.get? b = some u) : Inv X pins σ H { s with heap := h', toks := t' } := I.un (Un.kept k) (I.hok.kept k)
theorem Inv.laid {a : Addr} {o : HO} {t' : Nat} (I : Inv X pins σ H s) (k : ∀ b u, s.heap.get? b = some u → h'.get? b = some u) (hp : s.heap.objs.size ≤ a) (new : ObjOk X.prog X.w (upd H a o) h' a o) :
    Inv X pins σ (upd H a o) { s with heap := h', toks := t' } := I.un (Un.laid k hp (I.hok.fresh hp)) (I.hok.laid k hp new)
theorem Inv.write {x e : Addr} {o : HO} {t' : Nat} (I : Inv X pins σ H s) (mu : Mut (H x)) (he : e = x ∨ H e = some (.own x)) (k : ∀ b u, b ≠ e → s.heap.get? b = some u → h'.get? b = some u) (heo : ∃ u, h'.get? e = some u)
    (new : ObjOk X.prog X.w (upd H x o) h' x o) : Inv X pins σ (upd H x o) { s with heap := h', toks := t' } := I.un (Un.write mu he k heo) (I.hok.write mu he k heo new)
theorem Inv.pins_of {pins' : List (Addr × Obj)} (I : Inv X pins σ H s) (h : ∀ p ∈ pins', s.heap.get? p.1 = some p.2 ∧ H p.1 = none ∧ p.1 ≠ X.env.locals ∧ p.1 ∉ X.fs ∧ ∀ v, p.2.data ≠ .cell v) : Inv X pins' σ H s :=
  ⟨I.ok, I.os, I.bare, I.base, I.loc, I.cell, I.free, I.freeC, fun p hp => (List.mem_append.mp hp).elim (fun z => I.pin p (List.mem_append_left _ z)) (h p), I.hok, I.len⟩
theorem nodup_ix {N : List Str} (hN : N.Nodup) {i j : Nat} {x : Str} (a : N[i]? = some x) (b : N[j]? = some x) : i = j := by
  obtain ⟨h1, e1⟩ := List.getElem?_eq_some_iff.mp a
  obtain ⟨h2, e2⟩ := List.getElem?_eq_some_iff.mp b
  exact (List.getElem_inj hN).mp (e1.trans e2.symm)
theorem store_ok2 {M : Model} {A : Around} {E : Value → Shared → Prop} {i : Nat} {x : Str} {v : V} {u : Value} {Q : Unit → Shared → Prop} (I : Inv X pins σ H s) (hN : X.N.Nodup) (hi : X.N[i]? = some x) (hx : Loc X.env.scope x) (r : RelV v u)
    (h : ∀ s', Inv X pins (σ.set i (some v)) H s' → (∃ a, Heap.SameBut a s.heap s'.heap ∧ (a = X.env.locals ∨ X.env.cells.lookup x = some a)) → Q () s') (hf : X.fn x = true ∨ X.env.scope.names.lookup x = some .local := by first | exact .inl rfl | exact .inr rfl | assumption) : wpAny M A (storeName X.env x u) Q E s := by
  obtain ⟨m, hn, hl⟩ := id I.loc
  have hcls : (X.env.scope.kind == .class || (X.env.scope.kind == .module && X.env.locals != X.env.globals)) = false := by rw [I.ok.kind]; rfl
  have hiσ : i < σ.length := by rw [I.len]; exact (List.getElem?_eq_some_iff.mp hi).1
  have cne := I.cne
  have tracked : ∀ {a : Addr} {h' : Heap}, (∃ o, s.heap.get? a = some o ∧ H a = none) → Heap.SameBut a s.heap h' → HOk X.prog X.w H h' := fun {a h'} ha hs b ob e => by
    obtain ⟨_, _, hfree⟩ := ha
    refine (I.hok b ob e).stay (fun c w' hc q => (hs.2 c ?_).trans q) (fun _ q => q) fun _ _ q => q
    rintro rfl
    rcases hc with rfl | hc
    · rw [hfree] at e; cases e
    · rw [hfree] at hc; cases hc
  rcases hx with hk | hk
  · refine wpAny_storeName_local hk hn (fun h' hn' hs => ?_) hcls
    obtain ⟨oL, _, _, hoL, _⟩ := id hn
    refine h _ ⟨I.ok, I.os, I.bare, ⟨fun b o e n hb hx => ?_, fun b o e n hb hx => ?_, I.base.free, fun b o e hx => ?_, I.base.tups, I.base.frzs, I.base.tbls⟩, ⟨_, hn', fun j y v' e1 e2 e3 => ?_⟩, fun y c e => ?_, I.free, I.freeC, fun p hp => ?_, tracked ⟨oL, hoL, I.free⟩ hs, by simpa using I.len⟩ ⟨_, hs, .inl rfl⟩
    · exact (hs.2 b (Nat.ne_of_lt (Nat.lt_of_lt_of_le (Heap.lt_size e) I.ok.above))).trans (I.base.keep b o e n hb hx)
    · obtain ⟨sl, e1⟩ := I.base.slot b o e n hb hx
      exact ⟨sl, (hs.2 b (Nat.ne_of_lt (Nat.lt_of_lt_of_le (Heap.lt_size e) I.ok.above))).trans e1⟩
    · obtain ⟨o', e1⟩ := I.base.there b o e hx
      exact ⟨o', (hs.2 b (Nat.ne_of_lt (Nat.lt_of_lt_of_le (Heap.lt_size e) I.ok.above))).trans e1⟩
    · by_cases hj : j = i
      · subst hj
        rw [hi] at e1; cases e1
        rw [List.getElem?_set_self hiσ] at e2
        cases e2
        exact ⟨u, r, .inl ⟨hk, by simp⟩⟩
      · rw [List.getElem?_set_ne (Ne.symm hj)] at e2
        obtain ⟨u', r', q⟩ := hl j y v' e1 e2 e3
        refine ⟨u', r', ?_⟩
        rcases q with ⟨k, e⟩ | ⟨k, c, e, z⟩
        · refine .inl ⟨k, ?_⟩
          have : y ≠ x := fun e => hj (nodup_ix hN e1 (e ▸ hi))
          simp [this, e]
        · exact .inr ⟨k, c, e, z.sameBut hs (cne y c e)⟩
    · obtain ⟨w', z⟩ := I.cell y c e
      exact ⟨w', z.sameBut hs (cne y c e)⟩
    · obtain ⟨e, n, ne, nf, d⟩ := I.pin p hp
      exact ⟨(hs.2 p.1 ne).trans e, n, ne, nf, d⟩
  · have hfn : X.fn x = true := by
      rcases hf with z | z
      · exact z
      · rw [z] at hk; cases hk
    obtain ⟨c, hc⟩ := I.ok.has x (.inl hk)
    obtain ⟨w', z⟩ := I.cell x c hc
    refine wpAny_storeName_cell I.ok.kind hk hc z (fun h' hc' hs => ?_)
    obtain ⟨oc, hoc, hocd⟩ := id z
    refine h { s with heap := h' } ⟨I.ok, I.os, I.bare, ⟨fun b o e n hb hx => ?_, fun b o e n hb hx => ?_, I.base.free, fun b o e hx => ?_, I.base.tups, I.base.frzs, I.base.tbls⟩, ⟨m, hn.sameBut hs (Ne.symm (cne x c hc)), fun j y v' e1 e2 e3 => ?_⟩, fun y c' e => ?_, I.free, I.freeC, fun p hp => ?_, tracked ⟨oc, hoc, I.freeC x c hc⟩ hs, by simpa using I.len⟩ ⟨c, hs, .inr hc⟩
    · exact (hs.2 b (Nat.ne_of_lt (Nat.lt_of_lt_of_le (Heap.lt_size e) (I.ok.cab x c hfn hc)))).trans (I.base.keep b o e n hb hx)
    · obtain ⟨sl, e1⟩ := I.base.slot b o e n hb hx
      exact ⟨sl, (hs.2 b (Nat.ne_of_lt (Nat.lt_of_lt_of_le (Heap.lt_size e) (I.ok.cab x c hfn hc)))).trans e1⟩
    · obtain ⟨o', e1⟩ := I.base.there b o e hx
      exact ⟨o', (hs.2 b (Nat.ne_of_lt (Nat.lt_of_lt_of_le (Heap.lt_size e) (I.ok.cab x c hfn hc)))).trans e1⟩
    · by_cases hj : j = i
      · subst hj
        rw [hi] at e1; cases e1
        rw [List.getElem?_set_self hiσ] at e2
        cases e2
        exact ⟨u, r, .inr ⟨.inl hk, c, hc, hc'⟩⟩
      · rw [List.getElem?_set_ne (Ne.symm hj)] at e2
        obtain ⟨u', r', q⟩ := hl j y v' e1 e2 e3
        refine ⟨u', r', ?_⟩
        rcases q with q | ⟨k, c', e, z'⟩
        · exact .inl q
        · refine .inr ⟨k, c', e, z'.sameBut hs ?_⟩
          rintro rfl
          exact hj (nodup_ix hN e1 (I.ok.inj _ _ _ e hc ▸ hi))
    · by_cases hcc : c' = c
      · subst hcc; exact ⟨_, hc'⟩
      · obtain ⟨w2, z2⟩ := I.cell y c' e
        exact ⟨w2, z2.sameBut hs hcc⟩
    · obtain ⟨e, n, ne, nf, d⟩ := I.pin p hp
      refine ⟨(hs.2 p.1 ?_).trans e, n, ne, nf, d⟩
      intro q
      rw [q, hoc] at e
      have q' : oc = p.2 := Option.some.inj e
      exact d w' (by rw [← q']; exact hocd)
theorem store_ok {M : Model} {A : Around} {E : Value → Shared → Prop} {i : Nat} {x : Str} {v : V} {u : Value} {Q : Unit → Shared → Prop} (I : Inv X pins σ H s) (hN : X.N.Nodup) (hi : X.N[i]? = some x) (hx : Loc X.env.scope x) (r : RelV v u)
    (h : ∀ s', Inv X pins (σ.set i (some v)) H s' → Q () s') (hf : X.fn x = true ∨ X.env.scope.names.lookup x = some .local := by first | exact .inl rfl | exact .inr rfl | assumption) : wpAny M A (storeName X.env x u) Q E s :=
  store_ok2 I hN hi hx r (fun s' I' _ => h s' I') hf
theorem Inv.call' {s' : Shared} {ch : List Addr} (I : Inv X pins σ H s) (ho : s'.os = s.os) (u : Un (frs X.stack) ch H H' s.heap s'.heap) (hok : HOk X.prog X.w H' s'.heap) (hg : AllBare s'.gens)
    (hch : ∀ b ∈ ch, (b ∈ X.ex ∨ X.s₀.heap.objs.size ≤ b) ∧ b ≠ X.env.locals ∧ (∀ x c, X.env.cells.lookup x = some c → c ≠ b) ∧ ∀ p ∈ X.pn ++ pins, p.1 ≠ b) : Inv X pins σ H' s' := by
  obtain ⟨h', g', d', t', o'⟩ := s'
  have e : o' = s.os := ho
  subst e
  exact I.call (g' := g') (t' := t') (d' := d') u hok hg hch
end
noncomputable abbrev XK := Value → Option Addr → Hp → Prop
noncomputable abbrev St := List (Option V)
noncomputable abbrev VK := V → Hp → Prop
noncomputable abbrev TE := St → Hp → VK → Prop
noncomputable abbrev TT := St → Hp → (Bool → Hp → Prop) → Prop
noncomputable abbrev TA := St → Hp → (List V → Hp → Prop) → Prop
structure Ends where
  nx : St → Hp → Prop
  rt : VK
  bk : St → Hp → Prop := fun _ _ => False
  ct : St → Hp → Prop := fun _ _ => False
noncomputable abbrev TS := Ends → St → Hp → Prop
noncomputable def EP (X : Cx) (pins : List (Addr × Obj)) (σ : St) (Q : VK) (u : Value) (s' : Shared) : Prop := ∃ v H', Inv X pins σ H' s' ∧ RelV v u ∧ Q v H'
noncomputable def TP (X : Cx) (pins : List (Addr × Obj)) (σ : St) (Q : Bool → Hp → Prop) (b : Bool) (s' : Shared) : Prop := ∃ H', Inv X pins σ H' s' ∧ Q b H'
noncomputable def AP (X : Cx) (pins : List (Addr × Obj)) (σ : St) (Q : List V → Hp → Prop) (us : List Value) (s' : Shared) : Prop := ∃ vs H', Inv X pins σ H' s' ∧ Vals vs us ∧ Q vs H'
noncomputable def SP (X : Cx) (pins : List (Addr × Obj)) (D : Ends) (f : Flow) (s' : Shared) : Prop :=
  match f with
  | .next => ∃ σ' H', Inv X pins σ' H' s' ∧ D.nx σ' H'
  | .brk => ∃ σ' H', Inv X pins σ' H' s' ∧ D.bk σ' H'
  | .cont => ∃ σ' H', Inv X pins σ' H' s' ∧ D.ct σ' H'
  | .ret u => ∃ v σ' H', Inv X pins σ' H' s' ∧ RelV v u ∧ D.rt v H'
noncomputable def PE (X : Cx) (e : Expr) (t : TE) : Prop :=
  ∀ (pins : List (Addr × Obj)) (s : Shared) (σ : St) (H : Hp) (Q : VK), Inv X pins σ H s → t σ H Q → wpAny (model X.prog X.w) X.A (eval e X.env) (EP X pins σ Q) X.xe s
noncomputable def PT (X : Cx) (e : Expr) (t : TT) : Prop :=
  ∀ (pins : List (Addr × Obj)) (s : Shared) (σ : St) (H : Hp) (Q : Bool → Hp → Prop), Inv X pins σ H s → t σ H Q → wpAny (model X.prog X.w) X.A (isTrue e X.env (eval e X.env)) (TP X pins σ Q) X.xe s
noncomputable def PW (X : Cx) (e : Expr) (t : TT) : Prop :=
  ∀ (whole : Sem Value) (pins : List (Addr × Obj)) (s : Shared) (σ : St) (H : Hp) (Q : Bool → Hp → Prop), Inv X pins σ H s → t σ H Q → wpAny (model X.prog X.w) X.A (isTrue e X.env whole) (TP X pins σ Q) X.xe s
theorem PW.pt {X : Cx} {e : Expr} {t : TT} (h : PW X e t) : PT X e t := h _
noncomputable def PA (X : Cx) (es : List Expr) (t : TA) : Prop :=
  ∀ (pos : Pos) (pins : List (Addr × Obj)) (s : Shared) (σ : St) (H : Hp) (Q : List V → Hp → Prop), Inv X pins σ H s → t σ H Q → wpAny (model X.prog X.w) X.A (spliced (backTo pos (starEach es X.env))) (AP X pins σ Q) X.xe s
noncomputable def PS (X : Cx) (st : Stmt) (t : TS) : Prop :=
  ∀ (pins : List (Addr × Obj)) (s : Shared) (σ : St) (H : Hp) (D : Ends), Inv X pins σ H s → t D σ H → wpAny (model X.prog X.w) X.A (exec st X.env) (SP X pins D) X.xe s
noncomputable def PSs (X : Cx) (st : List Stmt) (t : TS) : Prop :=
  ∀ (pins : List (Addr × Obj)) (s : Shared) (σ : St) (H : Hp) (D : Ends), Inv X pins σ H s → t D σ H → wpAny (model X.prog X.w) X.A (execs st X.env) (SP X pins D) X.xe s
theorem thn {α : Type} {t : Sem α} {Q Q' : α → Shared → Prop} {M : Model} {A : Around} {E : Value → Shared → Prop} {s : Shared} (h : wpAny M A t Q E s) (hQ : ∀ a s, Q a s → Q' a s) : wpAny M A t Q' E s := wpAny_mono h hQ fun _ _ x => x
end L2
namespace L2
open PySem PySem.Spec PyProof.Rows
section
variable {X : Cx}
noncomputable def tVar (i : Nat) : TE := fun σ H Q => ∃ v, σ[i]? = some (some v) ∧ Q v H
noncomputable def tC (v : V) : TE := fun _ H Q => Q v H
theorem pe_var {i : Nat} {x : Str} {pos : Pos} (hN : X.N[i]? = some x) (hv : Vis X.env.scope x) (hd : (x == ("__debug__" : Str)) = false := by decide) (hcd : (x == ("__classdict__" : Str)) = false := by decide) : PE X (.Name x pos) (tVar i) := by
  intro pins s σ H Q I h
  obtain ⟨v, e, h⟩ := h
  obtain ⟨m, hn, hl⟩ := I.loc
  obtain ⟨u, r, l⟩ := hl i x v hN e hv
  have fin : EP X pins σ Q u s := ⟨v, H, I, r, h⟩
  rcases l with ⟨hk, hm⟩ | ⟨hk, c, hc, hcell⟩
  · exact wpAny_Name (wpAny_loadName_local I.ok.kind hk hn hm fin) hd
  · rcases hk with hk | hk
    · exact wpAny_Name (wpAny_loadName_cell I.ok.kind hk hc hcell fin) hd
    · exact wpAny_Name (wpAny_loadName_free I.ok.kind hk hc hcell fin hcd) hd
theorem pe_int {i j pos} : PE X (.Constant (.int i) j pos) (tC (.int i)) := fun _ _ _ H _ I h => wpAny_Constant_int ⟨.int i, H, I.tok _, ⟨_, rfl⟩, h⟩
theorem pe_bl {b j pos} : PE X (.Constant (.bool b) j pos) (tC (.bl b)) := fun _ _ _ H _ I h => Constant_bool ⟨.bl b, H, I, rfl, h⟩
theorem pe_str {x j pos} : PE X (.Constant (.str x) j pos) (tC (.str x)) := fun _ _ _ H _ I h => Calls.Constant_str ⟨.str x, H, I.tok _, ⟨_, rfl⟩, h⟩
noncomputable def Gl (X : Cx) (x : Str) : Prop := X.env.kindOf x = some .globalImplicit
theorem ld_glob {E : Value → Shared → Prop} {pins : List (Addr × Obj)} {s : Shared} {σ : St} {H : Hp} {x : Str} {u : Value} {pos : Pos} {Q : Value → Shared → Prop} (I : Inv X pins σ H s) (hg : Gl X x) (hm : X.mg x = some u) (h : Q u s)
    (hd : (x == ("__debug__" : Str)) = false := by decide) : wpAny (model X.prog X.w) X.A (eval (.Name x pos) X.env) Q E s :=
  Calls.Name_function_global I.ok.kind hg (Calls.loadGlobal_global (by rw [I.ok.glob]; exact I.mod.glob.keeps I.bk) hm h) hd
theorem ld_blt {E : Value → Shared → Prop} {pins : List (Addr × Obj)} {s : Shared} {σ : St} {H : Hp} {x : Str} {u : Value} {pos : Pos} {Q : Value → Shared → Prop} (I : Inv X pins σ H s) (hg : Gl X x) (hm : X.mg x = none) (hv : bootBuiltins x = some u) (h : Q u s)
    (hn : x ≠ "__name__" := by decide) (hd : (x == ("__debug__" : Str)) = false := by decide) : wpAny (model X.prog X.w) X.A (eval (.Name x pos) X.env) Q E s := by
  obtain ⟨mb, h1, h2⟩ := I.mod.blt
  exact Calls.Name_function_global I.ok.kind hg (Calls.loadGlobal_builtin (by rw [I.ok.glob]; exact I.mod.glob.keeps I.bk) hm (by rw [I.ok.blt]; exact h1.keeps I.bk) ((h2 x hn).trans hv) h) hd
theorem pe_glob {x : Str} {v : V} {u : Value} {pos : Pos} (hg : Gl X x) (hm : X.mg x = some u) (r : RelV v u) (hd : (x == ("__debug__" : Str)) = false := by decide) : PE X (.Name x pos) (tC v) :=
  fun _ _ _ H _ I h => ld_glob I hg hm ⟨v, H, I, r, h⟩ hd
theorem pe_bltn {x : Str} {v : V} {u : Value} {pos : Pos} (hg : Gl X x) (hm : X.mg x = none) (hv : bootBuiltins x = some u) (r : RelV v u) (hn : x ≠ "__name__" := by decide) (hd : (x == ("__debug__" : Str)) = false := by decide) : PE X (.Name x pos) (tC v) :=
  fun _ _ _ H _ I h => ld_blt I hg hm hv ⟨v, H, I, r, h⟩ hn hd
variable {a b : Expr} {ta tb : TE} {pos : Pos}
noncomputable def tB (t : TE) : TT := fun σ H Q => t σ H fun x H1 => ∃ c, x = .bl c ∧ Q c H1
theorem pt_val {e : Expr} {t : TE} (h : PE X e t) (he : ∀ whole, isTrue e X.env whole = (do let v ← whole; standAt e.pos; holding [v] (truthy v)) := by intro _; rfl) : PT X e (tB t) := by
  intro pins s σ H Q I hw
  refine isTrue_plain (thn (h pins s σ H _ I hw) fun v s1 ⟨x, H1, I1, r1, q1⟩ => ?_) (he _)
  obtain ⟨d, rfl, q⟩ := q1
  cases r1
  exact wpAny_truthy_bool ⟨H1, I1, q⟩
variable {tA tB' : TT} {rest : List Expr}
noncomputable def tAnd (t u : TT) : TT := fun σ H Q => t σ H fun c H1 => if c = true then u σ H1 Q else Q false H1
noncomputable def tOr (t u : TT) : TT := fun σ H Q => t σ H fun c H1 => if c = true then Q true H1 else u σ H1 Q
noncomputable def tNot (t : TT) : TT := fun σ H Q => t σ H fun c H1 => Q (!c) H1
theorem pw_and1 (ha : PT X a tA) : PW X (.BoolOp .And [a] pos) tA := by
  intro wh pins s σ H Q I h
  refine isTrue_and (thn (ha pins s σ H Q I h) fun c s1 e => ?_)
  cases c with
  | true => exact isTrue_and_nil e
  | false => exact e
theorem pw_or1 (ha : PT X a tA) : PW X (.BoolOp .Or [a] pos) tA := by
  intro wh pins s σ H Q I h
  refine isTrue_or (thn (ha pins s σ H Q I h) fun c s1 e => ?_)
  cases c with
  | false => exact isTrue_or_nil e
  | true => exact e
theorem pw_and (ha : PT X a tA) (hb : PW X (.BoolOp .And (b :: rest) pos) tB') : PW X (.BoolOp .And (a :: b :: rest) pos) (tAnd tA tB') := by
  intro wh pins s σ H Q I h
  refine isTrue_and (thn (ha pins s σ H _ I h) fun c s1 ⟨H1, I1, q1⟩ => ?_)
  cases c with
  | true => exact hb wh pins s1 σ H1 Q I1 q1
  | false => exact ⟨H1, I1, q1⟩
theorem pw_or (ha : PT X a tA) (hb : PW X (.BoolOp .Or (b :: rest) pos) tB') : PW X (.BoolOp .Or (a :: b :: rest) pos) (tOr tA tB') := by
  intro wh pins s σ H Q I h
  refine isTrue_or (thn (ha pins s σ H _ I h) fun c s1 ⟨H1, I1, q1⟩ => ?_)
  cases c with
  | true => exact ⟨H1, I1, q1⟩
  | false => exact hb wh pins s1 σ H1 Q I1 q1
theorem pt_not (ha : PT X a tA) : PT X (.UnaryOp .Not a pos) (tNot tA) := by
  intro pins s σ H Q I h
  exact isTrue_not (ha pins s σ H (fun c H1 => Q (!c) H1) I h)
noncomputable def tAndV (ta tb : TE) : TE := fun σ H Q => ta σ H fun x H1 => ∃ c, x = .bl c ∧ if c = true then tb σ H1 Q else Q (.bl false) H1
noncomputable def tOrV (ta tb : TE) : TE := fun σ H Q => ta σ H fun x H1 => ∃ c, x = .bl c ∧ if c = true then Q (.bl true) H1 else tb σ H1 Q
noncomputable def tNotV (ta : TE) : TE := fun σ H Q => ta σ H fun x H1 => ∃ c, x = .bl c ∧ Q (.bl (!c)) H1
theorem pe_one {op} {t : TE} (h : PE X a t) : PE X (.BoolOp op [a] pos) t := fun pins s σ H Q I hw => BoolOp_one (h pins s σ H Q I hw)
theorem pe_and (ha : PE X a ta) (hb : PE X (.BoolOp .And (b :: rest) pos) tb) : PE X (.BoolOp .And (a :: b :: rest) pos) (tAndV ta tb) := by
  intro pins s σ H Q I h
  refine BoolOp_and (thn (ha pins s σ H _ I h) fun v s1 ⟨x, H1, I1, r1, q1⟩ => ?_)
  obtain ⟨c, rfl, q1⟩ := q1
  cases r1
  refine wpAny_truthy_bool ?_
  cases c with
  | true => exact hb pins s1 σ H1 Q I1 q1
  | false => exact ⟨.bl false, H1, I1, rfl, q1⟩
theorem pe_or (ha : PE X a ta) (hb : PE X (.BoolOp .Or (b :: rest) pos) tb) : PE X (.BoolOp .Or (a :: b :: rest) pos) (tOrV ta tb) := by
  intro pins s σ H Q I h
  refine BoolOp_or (thn (ha pins s σ H _ I h) fun v s1 ⟨x, H1, I1, r1, q1⟩ => ?_)
  obtain ⟨c, rfl, q1⟩ := q1
  cases r1
  refine wpAny_truthy_bool ?_
  cases c with
  | false => exact hb pins s1 σ H1 Q I1 q1
  | true => exact ⟨.bl true, H1, I1, rfl, q1⟩
theorem pe_not (ha : PE X a ta) : PE X (.UnaryOp .Not a pos) (tNotV ta) := by
  intro pins s σ H Q I h
  refine UnaryOp_ (thn (ha pins s σ H _ I h) fun v s1 ⟨x, H1, I1, r1, q1⟩ => ?_)
  obtain ⟨c, rfl, q1⟩ := q1
  cases r1
  exact not_of (wpAny_truthy_bool ⟨.bl (!c), H1, I1, rfl, q1⟩)
end
end L2
namespace L2
open PySem PySem.Spec PyProof.Rows
noncomputable def SqL (K : PySem.W.Frag) (H : Hp) (a : Addr) (xs : List V) : Prop :=
  Rd H a (.lst xs) ∨
    ∃ (o : Obj) (its : Array Value) (n : Nat), K.lookup a = some o ∧ o.cls = .type "list" ∧ o.dict = none ∧ o.data = .seq its n ∧ its.size ≤ sizeLine ∧ Vals xs its.toList
noncomputable def SqT (K : PySem.W.Frag) (H : Hp) (a : Addr) (xs : List V) : Prop :=
  Rd H a (.tup xs) ∨
    ∃ (o : Obj) (its : Array Value) (n : Nat), K.lookup a = some o ∧ o.cls = .type "tuple" ∧ o.data = .seq its n ∧ its.size ≤ sizeLine ∧ Vals xs its.toList
noncomputable def absV : Value → Option V
  | .none => some .non
  | .bool b => some (.bl b)
  | .int i _ => some (.int i)
  | .str x _ => some (.str x)
  | .bytes b _ => some (.byt b)
  | .float b _ => some (.flt b)
  | .ref a => some (.ref a)
  | .type n => some (.ty n)
  | _ => none
theorem RelV.abs {x : V} {u : Value} (r : RelV x u) : absV u = some x := by
  cases x with
  | non => cases r; rfl
  | bl _ => cases r; rfl
  | int _ => obtain ⟨t, rfl⟩ := r; rfl
  | str _ => obtain ⟨t, rfl⟩ := r; rfl
  | byt _ => obtain ⟨t, rfl⟩ := r; rfl
  | flt _ => obtain ⟨t, rfl⟩ := r; rfl
  | ref _ => cases r; rfl
  | ty _ => cases r; rfl
theorem RelV.inj {x y : V} {u : Value} (r : RelV x u) (q : RelV y u) : x = y := Option.some.inj (r.abs.symm.trans q.abs)
theorem Vals.inj : ∀ {xs ys : List V} {us : List Value}, Vals xs us → Vals ys us → xs = ys
  | _, _, _, .nil, .nil => rfl
  | _, _, _, .cons r t, .cons r' t' => by rw [r.inj r', Vals.inj t t']
section
variable {X : Cx} {pins : List (Addr × Obj)} {σ : St} {H : Hp} {s : Shared} {a : Addr} {xs ys : List V}
theorem SqL.of {K : PySem.W.Frag} (h : H a = some (.lst xs)) : SqL K H a xs := .inl (.inl h)
theorem SqT.of {K : PySem.W.Frag} (h : H a = some (.tup xs)) : SqT K H a xs := .inl (.inl h)
theorem Inv.list (I : Inv X pins σ H s) (h : SqL X.K H a xs) : ∃ its : List Value, Vals xs its ∧ PlainL s.heap a its.toArray ∧ xs.length ≤ sizeLine := by
  rcases h with h | ⟨o, its, n, hk, hc, hd, hs, hz, r⟩
  · obtain ⟨z, its, n, r, e⟩ := h.ok I.hok
    exact ⟨its, r, ⟨_, n, e, rfl, rfl, rfl⟩, z⟩
  · refine ⟨its.toList, r, ⟨o, n, I.kIn a o hk, hc, hd, by simpa using hs⟩, ?_⟩
    have e := r.length
    simp only [Array.length_toList] at e
    omega
theorem Inv.tuple (I : Inv X pins σ H s) (h : SqT X.K H a xs) : ∃ its : List Value, Vals xs its ∧ IsTup s.heap a its.toArray ∧ xs.length ≤ sizeLine := by
  rcases h with h | ⟨o, its, n, hk, hc, hs, hz, r⟩
  · obtain ⟨z, its, r, p⟩ := h.ok I.hok
    exact ⟨its, r, p, z⟩
  · refine ⟨its.toList, r, ⟨o, I.kIn a o hk, hc, n, by simpa using hs⟩, ?_⟩
    have e := r.length
    simp only [Array.length_toList] at e
    omega
theorem Inv.list_inj (I : Inv X pins σ H s) (h : SqL X.K H a xs) (h' : SqL X.K H a ys) : xs = ys := by
  obtain ⟨its, r, ⟨o, n, e, _, _, d⟩, _⟩ := I.list h
  obtain ⟨its', r', ⟨o', n', e', _, _, d'⟩, _⟩ := I.list h'
  rw [e] at e'; cases e'
  rw [d] at d'
  injection d' with d1 _
  have : its = its' := by simpa using congrArg Array.toList d1
  subst this
  exact r.inj r'
end
noncomputable abbrev Cx.wish (X : Cx) (E : Value → Shared → Prop) : Cx := { X with xe := E }
noncomputable abbrev Cx.nox (X : Cx) : Cx := X.wish fun _ _ => False
theorem Cx.Ok.wish {X : Cx} (ok : X.Ok) (E : Value → Shared → Prop) : (X.wish E).Ok :=
  ⟨ok.mod, ok.kind, ok.glob, ok.blt, ok.above, ok.inj, ok.has, ok.cab, ok.hd, ok.frames, ok.stk, ok.exf, ok.bs, ok.bsz, ok.noex, ok.exfs, ok.funs, ok.frf⟩
theorem Cx.Ok.unwish {X : Cx} {E : Value → Shared → Prop} (ok : (X.wish E).Ok) : X.Ok :=
  ⟨ok.mod, ok.kind, ok.glob, ok.blt, ok.above, ok.inj, ok.has, ok.cab, ok.hd, ok.frames, ok.stk, ok.exf, ok.bs, ok.bsz, ok.noex, ok.exfs, ok.funs, ok.frf⟩
section
variable {X : Cx} {pins : List (Addr × Obj)} {σ : St} {H : Hp} {s : Shared} {E : Value → Shared → Prop}
theorem Inv.wish (I : Inv X pins σ H s) (E : Value → Shared → Prop) : Inv (X.wish E) pins σ H s := ⟨I.ok.wish E, I.os, I.bare, I.base, I.loc, I.cell, I.free, I.freeC, I.pin, I.hok, I.len⟩
theorem Inv.unwish (I : Inv (X.wish E) pins σ H s) : Inv X pins σ H s := ⟨I.ok.unwish, I.os, I.bare, I.base, I.loc, I.cell, I.free, I.freeC, I.pin, I.hok, I.len⟩
theorem SP.unwish {D : Ends} {f : Flow} {s' : Shared} (h : SP (X.wish E) pins D f s') : SP X pins D f s' := by
  cases f with
  | next => obtain ⟨σ', H', I, q⟩ := h; exact ⟨σ', H', I.unwish, q⟩
  | brk => obtain ⟨σ', H', I, q⟩ := h; exact ⟨σ', H', I.unwish, q⟩
  | cont => obtain ⟨σ', H', I, q⟩ := h; exact ⟨σ', H', I.unwish, q⟩
  | ret u => obtain ⟨v, σ', H', I, r, q⟩ := h; exact ⟨v, σ', H', I.unwish, r, q⟩
theorem PE.nox {e : Expr} {t : TE} (h : PE X.nox e t) : PE X e t := fun pins s σ H Q I hw =>
  wpAny_mono (h pins s σ H Q (I.wish _) hw) (fun _ _ ⟨v, H', I', r, q⟩ => ⟨v, H', I'.unwish, r, q⟩) fun _ _ z => False.elim z
theorem PT.nox {e : Expr} {t : TT} (h : PT X.nox e t) : PT X e t := fun pins s σ H Q I hw =>
  wpAny_mono (h pins s σ H Q (I.wish _) hw) (fun _ _ ⟨H', I', q⟩ => ⟨H', I'.unwish, q⟩) fun _ _ z => False.elim z
theorem PSs.nox {st : List Stmt} {t : TS} (h : PSs X.nox st t) : PSs X st t := fun pins s σ H D I hw =>
  wpAny_mono (h pins s σ H D (I.wish _) hw) (fun _ _ q => q.unwish) fun _ _ z => False.elim z
end
section
variable {X : Cx} {st : Stmt} {rest : List Stmt} {t u : TS} {e : Expr} {te : TE} {pos : Pos}
noncomputable def tNext : TS := fun D σ H => D.nx σ H
noncomputable def tSeq (t u : TS) : TS := fun D σ H => t { D with nx := u D } σ H
theorem pss_nil : PSs X [] tNext := fun _ _ σ H _ I h => wpAny_execs_nil ⟨σ, H, I, h⟩
theorem pss_cons (h1 : PS X st t) (h2 : PSs X rest u) : PSs X (st :: rest) (tSeq t u) := by
  intro pins s σ H D I h
  refine wpAny_execs_cons (thn (h1 pins s σ H { D with nx := u D } I h) fun f s1 q => ?_)
  cases f with
  | next =>
    obtain ⟨σ', H', I', q⟩ := q
    exact h2 pins s1 σ' H' D I' q
  | ret v => exact q
  | brk => exact q
  | cont => exact q
theorem pss_one (h1 : PS X st t) : PSs X [st] t := by
  intro pins s σ H D I h
  refine wpAny_execs_cons (thn (h1 pins s σ H D I h) fun f s1 q => ?_)
  cases f with
  | next => exact wpAny_execs_nil q
  | ret v => exact q
  | brk => exact q
  | cont => exact q
theorem Inv.quiet {pins : List (Addr × Obj)} {σ : St} {H : Hp} {s : Shared} (I : Inv X pins σ H s) : interactive X.env = false := by simp [interactive, I.ok.kind]
noncomputable def tDrop (te : TE) : TS := fun D σ H => te σ H fun _ H1 => D.nx σ H1
theorem ps_expr (he : PE X e te) (hs : swapsWith e none pos.line X.env = pure false := by rfl) : PS X (.Expr e pos) (tDrop te) := by
  intro pins s σ H D I h
  exact wpAny_Expr_any (thn (he pins s σ H _ I h) fun v s1 ⟨x, H1, I1, r1, q1⟩ => ⟨σ, H1, I1, q1⟩) I.quiet hs
noncomputable def tRet (te : TE) : TS := fun D σ H => te σ H D.rt
theorem ps_ret (he : PE X e te) : PS X (.Return (some e) pos) (tRet te) := by
  intro pins s σ H D I h
  exact wpAny_Return_some (thn (he pins s σ H _ I h) fun v s1 ⟨x, H1, I1, r1, q1⟩ => ⟨x, σ, H1, I1, r1, q1⟩)
noncomputable def tIfS (c : TT) (t u : TS) : TS := fun D σ H => c σ H fun b H1 => if b = true then t D σ H1 else u D σ H1
theorem ps_if {c : Expr} {a b : List Stmt} {tc : TT} (hc : PT X c tc) (ha : PSs X a t) (hb : PSs X b u) : PS X (.If c a b pos) (tIfS tc t u) := by
  intro pins s σ H D I h
  refine wpAny_If (thn (hc pins s σ H _ I h) fun d s1 ⟨H1, I1, q1⟩ => ?_)
  cases d with
  | true => exact ha pins s1 σ H1 D I1 q1
  | false => exact hb pins s1 σ H1 D I1 q1
end
noncomputable abbrev TG := V → St → Hp → (St → Hp → Prop) → Prop
noncomputable abbrev TGs := List V → St → Hp → (St → Hp → Prop) → Prop
noncomputable def PG (X : Cx) (target : Expr) (t : TG) : Prop :=
  ∀ (pins : List (Addr × Obj)) (s : Shared) (σ : St) (H : Hp) (v : V) (u : Value) (Q : St → Hp → Prop), Inv X pins σ H s → RelV v u → t v σ H Q →
    wpAny (model X.prog X.w) X.A (assign target X.env u) (fun _ s' => ∃ σ' H', Inv X pins σ' H' s' ∧ Q σ' H') X.xe s
noncomputable abbrev TSet := V → V → V → Hp → (Hp → Prop) → Prop
noncomputable def PSet (X : Cx) (t : TSet) : Prop :=
  ∀ (pins : List (Addr × Obj)) (s : Shared) (σ : St) (H : Hp) (o i v : V) (ov iv u : Value) (Q : Hp → Prop), Inv X pins σ H s → RelV o ov → RelV i iv → RelV v u → t o i v H Q →
    wpAny (model X.prog X.w) X.A (setItem ov iv u) (fun _ s' => ∃ H', Inv X pins σ H' s' ∧ Q H') X.xe s
section
variable {X : Cx} {pos : Pos}
noncomputable def gName (i : Nat) : TG := fun v σ H Q => Q (σ.set i (some v)) H
theorem pg_name {i : Nat} {x : Str} (hN : X.N.Nodup) (hi : X.N[i]? = some x) (hx : Loc X.env.scope x) (hf : X.fn x = true ∨ X.env.scope.names.lookup x = some .local := by first | exact .inl rfl | exact .inr rfl | assumption) : PG X (.Name x pos) (gName i) := by
  intro pins s σ H v u Q I r h
  exact wpAny_assign_Name (store_ok I hN hi hx r (fun s' I' => ⟨_, H, I', h⟩) hf)
noncomputable def gSub (to ti : TE) (t : TSet) : TG := fun v σ H Q => to σ H fun o H1 => ti σ H1 fun i H2 => t o i v H2 fun H3 => Q σ H3
theorem pg_sub {o i : Expr} {to ti : TE} {t : TSet} (ho : PE X o to) (hi : PE X i ti) (hs : PSet X t)
    (ha : ∀ v, assign (.Subscript o i pos) X.env v = (do
      let ov ← holding [v] (eval o X.env)
      let iv ← holding [v, ov] (eval i X.env)
      standAt pos
      holding [v, ov, iv] (setItem ov iv v)
      release [v, ov, iv] []) := by intro _; rfl) : PG X (.Subscript o i pos) (gSub to ti t) := by
  intro pins s σ H v u Q I r h
  rw [ha]
  refine wpAny_bind (wpAny_holding (thn (ho pins s σ H _ I h) fun ov s1 ⟨x, H1, I1, r1, q1⟩ => ?_))
  refine wpAny_bind (wpAny_holding (thn (hi pins s1 σ H1 _ I1 q1) fun iv s2 ⟨y, H2, I2, r2, q2⟩ => ?_))
  refine wpAny_bind (wpAny_standAt (wpAny_bind (wpAny_holding (thn (hs pins s2 σ H2 x y v ov iv u _ I2 r1 r2 r q2) fun _ s3 ⟨H3, I3, q3⟩ => ?_))))
  exact wpAny_release ⟨σ, H3, I3, q3⟩
noncomputable def tAsg (te : TE) (g : TG) : TS := fun D σ H => te σ H fun x H1 => g x σ H1 D.nx
theorem ps_asg {tg e : Expr} {te : TE} {g : TG} (he : PE X e te) (hg : PG X tg g) (hs : swapsWithSole [tg] e pos.line X.env = pure false := by rfl) (hw : swappedStores [tg] e X.env = pure none := by rfl)
    (h1 : (assignEach [tg] X.env).map (·.2) = [assign tg X.env] := by rfl) : PS X (.Assign [tg] e pos) (tAsg te g) := by
  intro pins s σ H D I h
  refine wpAny_Assign_stores (thn (he pins s σ H _ I h) fun v s1 ⟨x, H1, I1, r1, q1⟩ => ?_) hs hw
  rw [h1]
  exact thn (hg pins s1 σ H1 x v _ I1 r1 q1) fun _ s2 q => q
theorem ps_set {i : Nat} {x : Str} {e : Expr} {te : TE} {pos' : Pos} (hN : X.N.Nodup) (hi : X.N[i]? = some x) (hx : Loc X.env.scope x) (he : PE X e te) (hs : swapsWith e (some (.Name x pos')) pos.line X.env = pure false := by rfl) (hf : X.fn x = true ∨ X.env.scope.names.lookup x = some .local := by first | exact .inl rfl | exact .inr rfl | assumption) :
    PS X (.Assign [.Name x pos'] e pos) (tAsg te (gName i)) := by
  intro pins s σ H D I h
  refine wpAny_Assign_Name (thn (he pins s σ H _ I h) fun v s1 ⟨y, H1, I1, r1, q1⟩ => ?_) hs
  exact store_ok I1 hN hi hx r1 (fun s2 I2 => ⟨_, H1, I2, q1⟩) hf
noncomputable def tPar (i j : Nat) (ta : TA) : TS := fun D σ H => ta σ H fun vs H1 => ∃ v w, vs = [v, w] ∧ D.nx ((σ.set i (some v)).set j (some w)) H1
theorem ps_par {i j : Nat} {x y : Str} {a b : Expr} {ta : TA} {px py pt : Pos} {kt k2 pt2} (hc : X.calm = true) (hN : X.N.Nodup) (hi : X.N[i]? = some x) (hj : X.N[j]? = some y) (hij : i ≠ j)
    (hx : X.env.scope.names.lookup x = some .local) (hy : X.env.scope.names.lookup y = some .local) (ha : PA X [a, b] ta)
    (hw : swappedStores [.Tuple [.Name x px, .Name y py] kt pt] (.Tuple [a, b] k2 pt2) X.env = pure (some [x, y]))
    (hs : swapsWithSole [.Tuple [.Name x px, .Name y py] kt pt] (.Tuple [a, b] k2 pt2) pos.line X.env = pure false := by rfl) :
    PS X (.Assign [.Tuple [.Name x px, .Name y py] kt pt] (.Tuple [a, b] k2 pt2) pos) (tPar i j ta) := by
  intro pins s σ H D I h
  rw [exec_Assign_arm]
  refine wpAny_bind (wpAny_standAt ?_)
  rw [hs]
  refine wpAny_bind (wpAny_pure ?_)
  rw [if_neg (by decide)]
  refine wpAny_bind (Tuple_ (thn (ha _ pins s σ H _ I h) fun us s1 ⟨vs, H1, I1, r1, q1⟩ => ?_))
  obtain ⟨v, w, e1, q1⟩ := q1
  subst e1
  obtain ⟨u1, u2, rfl, rv, rw'⟩ : ∃ u1 u2, us = [u1, u2] ∧ RelV v u1 ∧ RelV w u2 := by
    cases r1 with
    | cons p q =>
      cases q with
      | cons p' q' =>
        cases q'
        exact ⟨_, _, rfl, p, p'⟩
  refine wpAny_newObj_type ?_ (by show 2 ≤ sizeLine; decide)
  have I2 : Inv X pins σ H1 { s1 with heap := s1.heap.push { cls := .type "tuple", data := .seq [u1, u2].toArray } } := I1.kept (t' := s1.toks) fun b o e => Heap.get?_push_of_some _ e
  rw [hw]
  refine wpAny_bind (wpAny_pure ?_)
  show wpAny (model X.prog X.w) X.A (do rule "assign.swapped-stores"; let items ← unpackItems (.ref s1.heap.objs.size) 2 none; assignInOrder [fun v => bindName X.env y v, fun v => bindName X.env x v] items.reverse; pure Flow.next) _ _ _
  refine wpAny_bind (wpAny_rule (wpAny_bind (unpackItems_tuple (items := #[u1, u2]) (I.ok.hd hc) (IsTup.new s1.heap _) fun h' hx' => ?_)))
  have I3 := I2.kept (h' := h') (t' := s1.toks) fun b o e => hx' b o (Nat.ne_of_lt (Heap.lt_size e)) e
  show wpAny _ _ (assignInOrder [fun v => bindName X.env y v, fun v => bindName X.env x v] [u2, u1] >>= fun _ => pure Flow.next) _ _ _
  refine wpAny_bind (assignInOrder_cons (wpAny_bindName (store_ok I3 hN hj (.inl hy) rw' (fun s2 I4 => ?_) (.inr hy))))
  refine assignInOrder_cons (wpAny_bindName (store_ok I4 hN hi (.inl hx) rv (fun s3 I5 => assignInOrder_nil (wpAny_pure ?_)) (.inr hx)))
  rw [List.set_comm _ _ (Ne.symm hij)] at I5
  exact ⟨_, H1, I5, q1⟩
end
section
variable {X : Cx} {pos : Pos}
noncomputable def tWhile (c : TT) (tb : TS) : TS := fun D σ H => ∃ W : Nat → St → Hp → Prop, (∃ m, W m σ H) ∧ ∀ m σ H, W m σ H →
  c σ H fun b H1 => if b = true then ∃ N : St → Hp → Prop, (∀ σ' H', N σ' H' → ∃ m', m' < m ∧ W m' σ' H') ∧ tb { D with nx := N, ct := N, bk := D.nx } σ H1 else D.nx σ H1
theorem ps_while {c : Expr} {body : List Stmt} {tc : TT} {tb : TS} (hp : PassesOwn (model X.prog X.w) X.A X.env X.xe) (hc : PT X c tc) (hb : PSs X body tb) : PS X (.While c body [] pos) (tWhile tc tb) := by
  intro pins s σ H D I h
  obtain ⟨W, ⟨m0, w0⟩, turn⟩ := h
  refine wpAny_While (codeAny_whileLoop (fun n s' => ∃ σ' H', Inv X pins σ' H' s' ∧ W n σ' H') ?_ m0 ⟨σ, H, I, w0⟩)
  rintro n s1 ⟨σ1, H1, I1, w1⟩
  refine wpAny_passesOwn hp (thn (hc pins s1 σ1 H1 _ I1 (turn n σ1 H1 w1)) fun b s2 ⟨H2, I2, q2⟩ => ?_)
  cases b with
  | true =>
    obtain ⟨N, hN, q2⟩ := q2
    rw [if_pos rfl]
    refine wpAny_passesOwn hp (thn (hb pins s2 σ1 H2 _ I2 q2) fun f s3 q3 => ?_)
    cases f with
    | next =>
      obtain ⟨σ3, H3, I3, n3⟩ := q3
      obtain ⟨m', hm, w3⟩ := hN σ3 H3 n3
      exact ⟨m', hm, σ3, H3, I3, w3⟩
    | cont =>
      obtain ⟨σ3, H3, I3, n3⟩ := q3
      obtain ⟨m', hm, w3⟩ := hN σ3 H3 n3
      exact ⟨m', hm, σ3, H3, I3, w3⟩
    | brk => exact q3
    | ret v => exact q3
  | false =>
    rw [if_neg Bool.false_ne_true]
    exact wpAny_execs_nil ⟨σ1, H2, I2, q2⟩
end
structure It where
  go : Nat → Hp → Prop
  yld : Nat → Hp → V → Hp → Prop
  stop : Nat → Hp → Prop
noncomputable def FpOk (X : Cx) (pins : List (Addr × Obj)) (H : Hp) (b : Addr) : Prop :=
  H b = none ∧ b ≠ X.env.locals ∧ b ∉ X.fs ∧ (b ∈ X.ex ∨ X.s₀.heap.objs.size ≤ b) ∧ (∀ x c, X.env.cells.lookup x = some c → c ≠ b) ∧ ∀ p ∈ X.pn ++ pins, p.1 ≠ b
theorem Inv.fpOk {X : Cx} {pins : List (Addr × Obj)} {σ : St} {H H' : Hp} {s : Shared} {b : Addr} (I : Inv X pins σ H s) (hb : s.heap.objs.size ≤ b) (hn : H' b = none) : FpOk X pins H' b := by
  refine ⟨hn, Nat.ne_of_gt (Nat.lt_of_lt_of_le I.lt hb), I.nofs hb, .inr (Nat.le_trans I.sz hb), fun x c e z => ?_, fun p hp z => ?_⟩
  · obtain ⟨v, q⟩ := I.cell x c e
    exact absurd (Nat.lt_of_lt_of_le q.lt (by rw [z]; exact hb)) (Nat.lt_irrefl _)
  · exact absurd (Nat.lt_of_lt_of_le (Heap.lt_size (I.pin p hp).1) (by rw [z]; exact hb)) (Nat.lt_irrefl _)
structure Turn (P : Program) (w : World) (K : PySem.W.Frag) (tg : Expr) (J : It) (fp : List Addr) (it : Addr) (tn : Nat → Heap → Prop) : Prop where
  mem : it ∈ fp
  obj : ∀ i h, tn i h → ∀ b ∈ fp, ∃ o, h.get? b = some o ∧ ∀ v, o.data ≠ .cell v
  keep : ∀ i h h', tn i h → (∀ b ∈ fp, ∀ o, h.get? b = some o → h'.get? b = some o) → tn i h'
  item : ∀ (X : Cx), X.prog = P → X.w = w → X.K = K → X.calm = true → ∀ (i : Nat) (pins : List (Addr × Obj)) (s : Shared) (σ : St) (H : Hp) (E : Value → Shared → Prop), Inv X pins σ H s → (∀ b ∈ fp, FpOk X pins H b) → tn i s.heap → J.go i H →
    wpAny (model P w) X.A (pyNext (.ref it)) (fun r s1 => ∃ u, r = some u ∧
      wpAny (model P w) X.A (letOwnedTupleGo tg (.ref it) u) (fun _ s2 => ∃ x H', Inv X pins σ H' s2 ∧ RelV x u ∧ J.yld i H x H' ∧ tn (i + 1) s2.heap ∧ ∀ b ∈ fp, H' b = none) E s1) E s
  done : ∀ (X : Cx), X.prog = P → X.w = w → X.K = K → X.calm = true → ∀ (i : Nat) (pins : List (Addr × Obj)) (s : Shared) (σ : St) (H : Hp) (E : Value → Shared → Prop), Inv X pins σ H s → (∀ b ∈ fp, FpOk X pins H b) → tn i s.heap → J.stop i H →
    wpAny (model P w) X.A (pyNext (.ref it)) (fun r s1 => r = none ∧ Inv X pins σ H s1) E s
  self : ∀ (A : Around) (i : Nat) (s : Shared) (Q : Value → Shared → Prop) (E : Value → Shared → Prop), tn i s.heap → Q (.ref it) s → wpAny (model P w) A (pyIter (.ref it)) Q E s
noncomputable abbrev TI := St → Hp → (It → Hp → Prop) → Prop
noncomputable def PIE (X : Cx) (pins : List (Addr × Obj)) (σ : St) (tg : Expr) (R : It → Hp → Prop) (itv : Value) (s2 : Shared) : Prop :=
  ∃ (it : Addr) (fp : List Addr) (tn : Nat → Heap → Prop) (J : It) (H' : Hp), itv = .ref it ∧ Inv X pins σ H' s2 ∧ Turn X.prog X.w X.K tg J fp it tn ∧ tn 0 s2.heap ∧ (∀ b ∈ fp, FpOk X pins H' b) ∧ R J H'
noncomputable def PI (X : Cx) (tg iter : Expr) (wi : TI) : Prop :=
  ∀ (pins : List (Addr × Obj)) (s : Shared) (σ : St) (H : Hp) (R : It → Hp → Prop), Inv X pins σ H s → wi σ H R →
    wpAny (model X.prog X.w) X.A (eval iter X.env) (fun v s1 => wpAny (model X.prog X.w) X.A (pyIter v) (PIE X pins σ tg R) X.xe s1) X.xe s
theorem go_of {M : Model} {A : Around} {E : Value → Shared → Prop} {s : Shared} {tg : Expr} {it : Addr} {u : Value} {o : Obj} {n : String} {vs : Array Value} {Q : Unit → Shared → Prop} (ho : s.heap.get? it = some o) (hc : o.cls = .type n) (hd : o.data = .fields vs)
    (hn : ["enumerate", "zip", "dict_itemiterator", "dict_reverseitemiterator", "odict_iterator", "itertools.zip_longest", "itertools.pairwise"].contains n = false) (hQ : Q () s) : wpAny M A (letOwnedTupleGo tg (.ref it) u) Q E s := by
  unfold letOwnedTupleGo
  cases tg <;> first
    | exact wpAny_pure hQ
    | (cases u <;> first
        | exact wpAny_pure hQ
        | (refine wpAny_bind (wpAny_load ho ?_)
           rw [hc, hd]
           show wpAny M A (if (["enumerate", "zip", "dict_itemiterator", "dict_reverseitemiterator", "odict_iterator", "itertools.zip_longest", "itertools.pairwise"].contains n && vs[0]? == some (rawInt _)) = true then _ else _) Q E s
           rw [if_neg (by intro h; rw [hn, Bool.false_and] at h; cases h)]
           exact wpAny_pure hQ))
noncomputable def Itl (K : PySem.W.Frag) (a : Addr) : It :=
  ⟨fun i H => ∃ xs x, SqL K H a xs ∧ xs[i]? = some x, fun i H x H' => H' = H ∧ ∀ xs, SqL K H a xs → xs[i]? = some x, fun i H => ∃ xs, SqL K H a xs ∧ xs.length ≤ i⟩
noncomputable def Itr (lo : Int) (n : Nat) : It := ⟨fun i _ => i < n, fun i H x H' => H' = H ∧ x = .int (lo + i), fun i _ => n ≤ i⟩
theorem turn_list {P : Program} {w : World} {K : PySem.W.Frag} {tg : Expr} (a it : Addr) : Turn P w K tg (Itl K a) [it] it (fun i h => h.IsListIter it a i) where
  mem := by simp
  obj := fun i h st b hb => by
    have e : b = it := by simpa using hb
    subst e
    obtain ⟨o, e, c, d⟩ := st
    exact ⟨o, e, fun v z => by rw [d] at z; cases z⟩
  keep := fun i h h' st k => st.at fun o e => k it (by simp) o e
  item := by
    intro X hP hw hK hc i pins s σ H E I hf st hg
    subst hP hw hK
    obtain ⟨xs, x, hq, hx⟩ := hg
    obtain ⟨its, rv, p, hz⟩ := I.list hq
    obtain ⟨u, hu, ru⟩ := rv.get hx
    obtain ⟨f0, f1, f2, f3, f4, f5⟩ := hf it (by simp)
    refine wpAny_pyNext_list_item st p.isList (x := u) (by simpa using hu) fun h' st' sb => ?_
    have I1 : Inv X pins σ H { s with heap := h' } := I.turned (t' := s.toks) (fun b o hb e => (sb.2 b hb).trans e) f0 f1 f3 f4 f5
    obtain ⟨o, e, c, d⟩ := id st'
    exact ⟨u, rfl, go_of (s := { s with heap := h' }) e c d (by decide) ⟨x, H, I1, ru, ⟨rfl, fun ys hy => by rw [I.list_inj hy hq]; exact hx⟩, st', fun b hb => (hf b hb).1⟩⟩
  done := by
    intro X hP hw hK hc i pins s σ H E I hf st hg
    subst hP hw hK
    obtain ⟨xs, hq, hx⟩ := hg
    obtain ⟨its, rv, p, hz⟩ := I.list hq
    obtain ⟨f0, f1, f2, f3, f4, f5⟩ := hf it (by simp)
    have hl := rv.length
    exact wpAny_pyNext_list_end (I.ok.hd hc) st p.isList (by simp; omega) fun h' eb => ⟨rfl, I.turned (t' := s.toks) (fun b o hb e => eb b o hb e) f0 f1 f3 f4 f5⟩
  self := fun _ _ _ _ _ st h => wpAny_pyIter_listiter st h
theorem turn_range {P : Program} {w : World} {K : PySem.W.Frag} {tg : Expr} (it : Addr) (lo : Int) (n : Nat) : Turn P w K tg (Itr lo n) [it] it (fun i h => IsRangeIter h it (lo + (i : Nat) * 1) ((n : Int) - (i : Nat)) 1) where
  mem := by simp
  obj := fun i h st b hb => by
    have e : b = it := by simpa using hb
    subst e
    exact ⟨_, st, fun v z => by
      have z' : Data.fields _ = Data.cell v := z
      cases z'⟩
  keep := fun i h h' st k => k it (by simp) _ st
  item := by
    intro X hP hw hK hc i pins s σ H E I hf st hg
    subst hP hw hK
    obtain ⟨f0, f1, f2, f3, f4, f5⟩ := hf it (by simp)
    have W := Walks.range (prog := X.prog) (w := X.w) (I.ok.hd hc) it lo 1 n
    refine W.item i s _ _ hg st fun v h' tk hv st' kk => ?_
    obtain ⟨t, rfl⟩ := hv
    have I1 : Inv X pins σ H { s with heap := h', toks := tk } := I.turned (fun b o hb e => kk b o (by simpa using hb) e) f0 f1 f3 f4 f5
    refine ⟨_, rfl, go_of (s := { s with heap := h', toks := tk }) (n := "range_iterator") st' rfl rfl (by decide) ⟨.int (lo + i), H, I1, ⟨t, ?_⟩, ⟨rfl, rfl⟩, st', fun b hb => (hf b hb).1⟩⟩
    rw [Int.mul_one]
  done := by
    intro X hP hw hK hc i pins s σ H E I hf st hg
    subst hP hw hK
    obtain ⟨f0, f1, f2, f3, f4, f5⟩ := hf it (by simp)
    exact wpAny_pyNext_range_end (I.ok.hd hc) st (by have : n ≤ i := hg; omega) fun h' eb => ⟨rfl, I.turned (t' := s.toks) (fun b o hb e => eb b o hb e) f0 f1 f3 f4 f5⟩
  self := fun _ _ _ _ _ st h => wpAny_pyIter_rangeiter st h
end L2
namespace L2
open PySem PySem.Spec PyProof.Rows
section
variable {X : Cx} {tg : Expr}
noncomputable def iList (K : PySem.W.Frag) (tl : TE) : TI := fun σ H R => tl σ H fun x H1 => ∃ a, x = .ref a ∧ (∃ xs, SqL K H1 a xs) ∧ R (Itl K a) H1
theorem pi_list {l : Expr} {tl : TE} (hl : PE X l tl) : PI X tg l (iList X.K tl) := by
  intro pins s σ H R I h
  refine thn (hl pins s σ H _ I h) fun v s1 ⟨x, H1, I1, r1, q1⟩ => ?_
  obtain ⟨a, e, ⟨xs, hq⟩, q⟩ := q1
  subst e
  cases r1
  obtain ⟨its, rv, p, hz⟩ := I1.list hq
  refine wpAny_pyIter_list p.isList ?_
  refine ⟨s1.heap.objs.size, [s1.heap.objs.size], _, _, H1, rfl, I1.kept (t' := s1.toks) fun b o e => Heap.get?_push_of_some _ e, turn_list a _, ⟨_, Heap.get?_push_size _ rfl, rfl, rfl⟩, fun b hb => ?_, q⟩
  have e : b = s1.heap.objs.size := by simpa using hb
  subst e
  exact I1.fpOk (Nat.le_refl _) (I1.hok.fresh (Nat.le_refl _))
theorem range_it {pins : List (Addr × Obj)} {σ : St} {H : Hp} {s : Shared} {R : It → Hp → Prop} {E : Value → Shared → Prop} {lo hi : Int} {t u v : Tok} {tk : Nat} (I : Inv X pins σ H s) (h1 : -(2 ^ 62) ≤ lo) (h2 : lo < 2 ^ 62) (h3 : -(2 ^ 62) ≤ hi) (h4 : hi < 2 ^ 62)
    (q : R (Itr lo (hi - lo).toNat) H) : wpAny (model X.prog X.w) X.A (pyIter (.ref s.heap.objs.size)) (PIE X pins σ tg R) E { s with heap := s.heap.push { cls := .type "range", data := .fields #[.int lo t, .int hi u, .int 1 v] }, toks := tk } := by
  refine wpAny_pyIter_range (IsRange.new ..) (small_one h1 h2 h3 h4) ?_
  have I1 : Inv X pins σ H { s with heap := s.heap.push { cls := .type "range", data := .fields #[.int lo t, .int hi u, .int 1 v] }, toks := tk } := I.kept fun b o e => Heap.get?_push_of_some _ e
  refine ⟨(s.heap.push { cls := .type "range", data := .fields #[.int lo t, .int hi u, .int 1 v] }).objs.size, [(s.heap.push { cls := .type "range", data := .fields #[.int lo t, .int hi u, .int 1 v] }).objs.size], _, _, H, rfl,
    I1.kept (t' := tk) fun b o e => Heap.get?_push_of_some _ e, turn_range _ lo (hi - lo).toNat, ?_, fun b hb => ?_, q⟩
  · have e1 : lo + ((0 : Nat) : Int) * 1 = lo := by simp
    have e2 : (((hi - lo).toNat : Nat) : Int) - ((0 : Nat) : Int) = Builtin.Range.rangeSize lo hi 1 := by rw [rangeSize_one]; split <;> omega
    show IsRangeIter _ _ (lo + ((0 : Nat) : Int) * 1) ((((hi - lo).toNat : Nat) : Int) - ((0 : Nat) : Int)) 1
    rw [e1, e2]
    exact Heap.get?_push_size _ rfl
  · have e : b = (s.heap.push { cls := .type "range", data := .fields #[.int lo t, .int hi u, .int 1 v] }).objs.size := by simpa using hb
    subst e
    exact I1.fpOk (Nat.le_refl _) (I1.hok.fresh (Nat.le_refl _))
noncomputable def iRng1 (ta : TA) : TI := fun σ H R => ta σ H fun vs H1 => ∃ j : Int, vs = [.int j] ∧ -(2 ^ 62) ≤ j ∧ j < 2 ^ 62 ∧ R (Itr 0 j.toNat) H1
noncomputable def iRng2 (ta : TA) : TI := fun σ H R => ta σ H fun vs H1 => ∃ i j : Int, vs = [.int i, .int j] ∧ (-(2 ^ 62) ≤ i ∧ i < 2 ^ 62 ∧ -(2 ^ 62) ≤ j ∧ j < 2 ^ 62) ∧ R (Itr i (j - i).toNat) H1
theorem pi_range1 {a : Expr} {ta : TA} {p pos : Pos} (hg : Gl X "range") (hm : X.mg "range" = none) (ha : PA X [a] ta) (hs : starEach [a] X.env = [(false, eval a X.env)] := by rfl) : PI X tg (.Call (.Name "range" p) [a] [] pos) (iRng1 ta) := by
  intro pins s σ H R I h
  refine Call_ (ld_blt I hg hm boot_range (PyProof.Rows.callWith_type1 (thn (ha pos pins s σ H _ I h) fun us s1 ⟨vs, H1, I1, r1, q1⟩ => ?_) hs rfl))
  obtain ⟨j, e, q1, q2, q⟩ := q1
  subst e
  cases r1 with
  | cons r rr =>
    cases rr
    obtain ⟨t, rfl⟩ := r
    exact call_range_1 (range_it I1 (by omega) (by omega) q1 q2 (by simpa using q))
theorem pi_range2 {a b : Expr} {ta : TA} {p pos : Pos} (hg : Gl X "range") (hm : X.mg "range" = none) (ha : PA X [a, b] ta) (hs : starEach [a, b] X.env = [(false, eval a X.env), (false, eval b X.env)] := by rfl) (hs2 : starEach [b] X.env = [(false, eval b X.env)] := by rfl) :
    PI X tg (.Call (.Name "range" p) [a, b] [] pos) (iRng2 ta) := by
  intro pins s σ H R I h
  refine Call_ (ld_blt I hg hm boot_range (PyProof.Rows.callWith_type1 (thn (ha pos pins s σ H _ I h) fun us s1 ⟨vs, H1, I1, r1, q1⟩ => ?_) (by rw [hs, hs2]) (by rw [hs2]; rfl)))
  obtain ⟨i, j, e, ⟨q1, q2, q3, q4⟩, q⟩ := q1
  subst e
  cases r1 with
  | cons r rr =>
    cases rr with
    | cons r' rr =>
      cases rr
      obtain ⟨t, rfl⟩ := r
      obtain ⟨t', rfl⟩ := r'
      exact call_range_2 (range_it I1 q1 q2 q3 q4 q)
noncomputable def tFor (wi : TI) (g : TG) (tb : TS) : TS := fun D σ H => wi σ H fun J H1 => ∃ W : Nat → Nat → St → Hp → Prop, (∃ m, W 0 m σ H1) ∧ ∀ i m σ H, W i m σ H →
  (J.stop i H ∧ D.nx σ H) ∨ (J.go i H ∧ ∃ N : St → Hp → Prop, (∀ σ' H', N σ' H' → ∃ m', m' < m ∧ W (i + 1) m' σ' H') ∧ ∀ x H', J.yld i H x H' → g x σ H' fun σ2 H2 => tb { D with nx := N, ct := N, bk := D.nx } σ2 H2)
noncomputable def pinsAt (fp : List Addr) (h : Heap) : List (Addr × Obj) := fp.filterMap fun b => (h.get? b).map fun o => (b, o)
theorem mem_pinsAt {fp : List Addr} {h : Heap} {b : Addr} {o : Obj} (hb : b ∈ fp) (e : h.get? b = some o) : (b, o) ∈ pinsAt fp h := List.mem_filterMap.mpr ⟨b, hb, by rw [e]; rfl⟩
theorem of_pinsAt {fp : List Addr} {h : Heap} {p : Addr × Obj} (hp : p ∈ pinsAt fp h) : p.1 ∈ fp ∧ h.get? p.1 = some p.2 := by
  obtain ⟨b, hb, e⟩ := List.mem_filterMap.mp hp
  cases q : h.get? b with
  | none => rw [q] at e; cases e
  | some o =>
    rw [q] at e
    have e' : (b, o) = p := Option.some.inj e
    subst e'
    exact ⟨hb, q⟩
theorem Inv.pinned {pins : List (Addr × Obj)} {σ : St} {H : Hp} {s : Shared} {fp : List Addr} (I : Inv X pins σ H s) (hf : ∀ b ∈ fp, FpOk X pins H b) (ho : ∀ b ∈ fp, ∃ o, s.heap.get? b = some o ∧ ∀ v, o.data ≠ .cell v) : Inv X (pins ++ pinsAt fp s.heap) σ H s :=
  I.pins_of fun p hp => (List.mem_append.mp hp).elim (fun z => I.pin p (List.mem_append_right _ z)) fun z => by
    obtain ⟨hb, e⟩ := of_pinsAt z
    obtain ⟨f0, f1, f2, _⟩ := hf p.1 hb
    obtain ⟨o, e', d⟩ := ho p.1 hb
    rw [e] at e'; cases e'
    exact ⟨e, f0, f1, f2, d⟩
theorem Inv.unpinned {pins pl : List (Addr × Obj)} {σ : St} {H : Hp} {s : Shared} (I : Inv X (pins ++ pl) σ H s) : Inv X pins σ H s := I.pins_of fun p hp => I.pin p (List.mem_append_right _ (List.mem_append_left _ hp))
theorem ps_for {iter : Expr} {body : List Stmt} {wi : TI} {g : TG} {tb : TS} {pos : Pos} (hp : PassesOwn (model X.prog X.w) X.A X.env X.xe) (hc : X.calm = true) (hi : PI X tg iter wi) (hg : PG X tg g) (hb : PSs X body tb)
    (hs : ∀ x, foldedSetIterable iter X.env x = pure x := by intro _; rfl) : PS X (.For tg iter body [] pos) (tFor wi g tb) := by
  intro pins s σ H D I h
  refine wpAny_For (thn (hi pins s σ H _ I h) fun v s1 h1 => thn h1 fun itv s2 h2 => ?_) hs
  obtain ⟨it, fp, tn, J, H2, e, I2, T, st2, f2, W, ⟨m0, w0⟩, turn⟩ := h2
  subst e
  have stat : ∀ {H' : Hp}, (∀ b ∈ fp, H' b = none) → ∀ b ∈ fp, FpOk X pins H' b := fun hn b hb => ⟨hn b hb, (f2 b hb).2⟩
  refine codeAny_forLoop_any (fun n s' => ∃ i σ' H', Inv X pins σ' H' s' ∧ tn i s'.heap ∧ (∀ b ∈ fp, H' b = none) ∧ W i n σ' H') ?_ m0 ⟨0, σ, H2, I2, st2, fun b hb => (f2 b hb).1, w0⟩
  rintro n s3 ⟨i, σ3, H3, I3, st3, fr3, w3⟩
  rcases turn i n σ3 H3 w3 with ⟨stop, qn⟩ | ⟨go, N, hN, step⟩
  · refine wpAny_passesOwn hp (thn (T.done X rfl rfl rfl hc i pins s3 σ3 H3 X.xe I3 (stat fr3) st3 stop) fun r s4 ⟨hr, I4⟩ => ?_)
    subst hr
    exact wpAny_execs_nil ⟨σ3, H3, I4, qn⟩
  · refine wpAny_passesOwn hp (thn (T.item X rfl rfl rfl hc i pins s3 σ3 H3 X.xe I3 (stat fr3) st3 go) fun r s4 ⟨u, hr, h4⟩ => ?_)
    subst hr
    refine wpAny_passesOwn hp (thn h4 fun _ s5 ⟨x, H5, I5, r5, y5, st5, fr5⟩ => ?_)
    have I5' := I5.pinned (stat fr5) (T.obj _ _ st5)
    refine wpAny_passesOwn hp (thn (hg _ s5 σ3 H5 x u _ I5' r5 (step x H5 y5)) fun _ s6 ⟨σ6, H6, I6, q6⟩ => ?_)
    refine wpAny_passesOwn hp (thn (hb _ s6 σ6 H6 _ I6 q6) fun f s7 q7 => ?_)
    have again : ∀ {σ7 : St} {H7 : Hp}, Inv X (pins ++ pinsAt fp s5.heap) σ7 H7 s7 → N σ7 H7 → ∃ m, m < n ∧ ∃ i σ' H', Inv X pins σ' H' s7 ∧ tn i s7.heap ∧ (∀ b ∈ fp, H' b = none) ∧ W i m σ' H' := fun {σ7 H7} I7 n7 => by
      obtain ⟨m', hm, w7⟩ := hN σ7 H7 n7
      refine ⟨m', hm, i + 1, σ7, H7, I7.unpinned, T.keep _ _ _ st5 fun b hb o e => (I7.pin (b, o) (List.mem_append_right _ (List.mem_append_right _ (mem_pinsAt hb e)))).1, fun b hb => ?_, w7⟩
      obtain ⟨o, e, d⟩ := T.obj _ _ st5 b hb
      exact (I7.pin (b, o) (List.mem_append_right _ (List.mem_append_right _ (mem_pinsAt hb e)))).2.1
    cases f with
    | next => obtain ⟨σ7, H7, I7, n7⟩ := q7; exact again I7 n7
    | cont => obtain ⟨σ7, H7, I7, n7⟩ := q7; exact again I7 n7
    | brk => obtain ⟨σ7, H7, I7, q7⟩ := q7; exact ⟨σ7, H7, I7.unpinned, q7⟩
    | ret v => obtain ⟨x7, σ7, H7, I7, r7, q7⟩ := q7; exact ⟨x7, σ7, H7, I7.unpinned, r7, q7⟩
end
theorem for_list {K : PySem.W.Frag} {a : Addr} {xs : List V} {g : TG} {tb : TS} {D : Ends} {σ : St} {H : Hp} (Pv : Nat → St → Hp → Prop) (h0 : Pv 0 σ H) (hl : ∀ i σ H, i ≤ xs.length → Pv i σ H → SqL K H a xs)
    (hs : ∀ i x σ H, xs[i]? = some x → Pv i σ H → g x σ H fun σ2 H2 => tb { D with nx := Pv (i + 1), ct := Pv (i + 1), bk := D.nx } σ2 H2) (hd : ∀ σ H, Pv xs.length σ H → D.nx σ H) :
    ∃ W : Nat → Nat → St → Hp → Prop, (∃ m, W 0 m σ H) ∧ ∀ i m σ H, W i m σ H →
      ((Itl K a).stop i H ∧ D.nx σ H) ∨ ((Itl K a).go i H ∧ ∃ N : St → Hp → Prop, (∀ σ' H', N σ' H' → ∃ m', m' < m ∧ W (i + 1) m' σ' H') ∧ ∀ x H', (Itl K a).yld i H x H' → g x σ H' fun σ2 H2 => tb { D with nx := N, ct := N, bk := D.nx } σ2 H2) := by
  refine ⟨fun i m σ H => m = xs.length - i ∧ i ≤ xs.length ∧ Pv i σ H, ⟨xs.length, by simp, Nat.zero_le _, h0⟩, ?_⟩
  rintro i m σ H ⟨rfl, hi, p⟩
  have q := hl i σ H hi p
  by_cases hlt : i < xs.length
  · refine .inr ⟨⟨xs, xs[i], q, by simp [hlt]⟩, Pv (i + 1), fun σ' H' p' => ⟨xs.length - (i + 1), by omega, rfl, hlt, p'⟩, fun x H' y => ?_⟩
    obtain ⟨e, y⟩ := y
    subst e
    exact hs i x σ _ (y xs q) p
  · have e : i = xs.length := by omega
    subst e
    exact .inl ⟨⟨xs, q, Nat.le_refl _⟩, hd σ H p⟩
theorem for_range {lo : Int} {n : Nat} {g : TG} {tb : TS} {D : Ends} {σ : St} {H : Hp} (Pv : Nat → St → Hp → Prop) (h0 : Pv 0 σ H)
    (hs : ∀ i σ H, i < n → Pv i σ H → g (.int (lo + i)) σ H fun σ2 H2 => tb { D with nx := Pv (i + 1), ct := Pv (i + 1), bk := D.nx } σ2 H2) (hd : ∀ σ H, Pv n σ H → D.nx σ H) :
    ∃ W : Nat → Nat → St → Hp → Prop, (∃ m, W 0 m σ H) ∧ ∀ i m σ H, W i m σ H →
      ((Itr lo n).stop i H ∧ D.nx σ H) ∨ ((Itr lo n).go i H ∧ ∃ N : St → Hp → Prop, (∀ σ' H', N σ' H' → ∃ m', m' < m ∧ W (i + 1) m' σ' H') ∧ ∀ x H', (Itr lo n).yld i H x H' → g x σ H' fun σ2 H2 => tb { D with nx := N, ct := N, bk := D.nx } σ2 H2) := by
  refine ⟨fun i m σ H => m = n - i ∧ i ≤ n ∧ Pv i σ H, ⟨n, by simp, Nat.zero_le _, h0⟩, ?_⟩
  rintro i m σ H ⟨rfl, hi, p⟩
  by_cases hlt : i < n
  · refine .inr ⟨hlt, Pv (i + 1), fun σ' H' p' => ⟨n - (i + 1), by omega, rfl, hlt, p'⟩, fun x H' y => ?_⟩
    obtain ⟨e, y⟩ := y
    subst e y
    exact hs i σ _ hlt p
  · have e : i = n := by omega
    subst e
    exact .inl ⟨Nat.le_refl _, hd σ H p⟩
theorem while_by {c : TT} {tb : TS} {D : Ends} {σ : St} {H : Hp} (Pv : St → Hp → Prop) (μ : St → Hp → Nat) (h0 : Pv σ H)
    (hs : ∀ σ H, Pv σ H → c σ H fun b H1 => if b = true then tb { D with nx := fun σ' H' => Pv σ' H' ∧ μ σ' H' < μ σ H, ct := fun σ' H' => Pv σ' H' ∧ μ σ' H' < μ σ H, bk := D.nx } σ H1 else D.nx σ H1)
    (mono : ∀ σ H Q Q', (∀ b H1, Q b H1 → Q' b H1) → c σ H Q → c σ H Q') : tWhile c tb D σ H := by
  refine ⟨fun m σ H => m = μ σ H ∧ Pv σ H, ⟨_, rfl, h0⟩, ?_⟩
  rintro m σ H ⟨rfl, p⟩
  refine mono σ H _ _ (fun b H1 q => ?_) (hs σ H p)
  cases b with
  | true => exact ⟨_, fun σ' H' ⟨p', l⟩ => ⟨_, l, rfl, p'⟩, q⟩
  | false => exact q
end L2
namespace L2
open PySem PySem.Spec PyProof.Rows
noncomputable abbrev R2 := V → V → Hp → VK → Prop
noncomputable def OpR (X : Cx) (f : Value → Value → Sem Value) (r : R2) : Prop :=
  ∀ (pins : List (Addr × Obj)) (s : Shared) (σ : St) (H : Hp) (x y : V) (v u : Value) (Q : VK), Inv X pins σ H s → RelV x v → RelV y u → r x y H Q →
    wpAny (model X.prog X.w) X.A (f v u) (EP X pins σ Q) X.xe s
noncomputable def UnR (X : Cx) (f : Value → Sem Value) (r : V → Hp → VK → Prop) : Prop :=
  ∀ (pins : List (Addr × Obj)) (s : Shared) (σ : St) (H : Hp) (x : V) (v : Value) (Q : VK), Inv X pins σ H s → RelV x v → r x H Q →
    wpAny (model X.prog X.w) X.A (f v) (EP X pins σ Q) X.xe s
noncomputable def CallR (X : Cx) (f : Value) (r : List V → Hp → VK → Prop) : Prop :=
  ∀ (pins : List (Addr × Obj)) (s : Shared) (σ : St) (H : Hp) (xs : List V) (us : List Value) (Q : VK), Inv X pins σ H s → Vals xs us → r xs H Q →
    wpAny (model X.prog X.w) X.A (call f us) (EP X pins σ Q) X.xe s
noncomputable def tOp (r : R2) (ta tb : TE) : TE := fun σ H Q => ta σ H fun x H1 => tb σ H1 fun y H2 => r x y H2 Q
noncomputable def tUn (r : V → Hp → VK → Prop) (ta : TE) : TE := fun σ H Q => ta σ H fun x H1 => r x H1 Q
noncomputable def rI (C : Int → Int → Prop) (g : Int → Int → V) : R2 := fun x y H Q => ∃ i j, x = .int i ∧ y = .int j ∧ C i j ∧ Q (g i j) H
noncomputable def rI0 (g : Int → Int → V) : R2 := fun x y H Q => ∃ i j, x = .int i ∧ y = .int j ∧ Q (g i j) H
noncomputable def rU (g : Int → V) : V → Hp → VK → Prop := fun x H Q => ∃ i, x = .int i ∧ Q (g i) H
section
variable {X : Cx} {a b c : Expr} {ta tb tc : TE} {pos : Pos}
theorem binT (ha : PE X a ta) (hb : PE X b tb) {pins : List (Addr × Obj)} {s : Shared} {σ : St} {H : Hp} {R : V → V → Hp → Prop} (I : Inv X pins σ H s)
    (h : ta σ H fun x H1 => tb σ H1 fun y H2 => R x y H2) {Q : Value → Shared → Prop} {f : Value → Value → Sem Value}
    (hf : ∀ v u s2 x y H2, Inv X pins σ H2 s2 → RelV x v → RelV y u → R x y H2 → wpAny (model X.prog X.w) X.A (f v u) Q X.xe s2) :
    wpAny (model X.prog X.w) X.A (eval a X.env) (fun v s₁ => wpAny (model X.prog X.w) X.A (eval b X.env) (fun u s₂ => wpAny (model X.prog X.w) X.A (f v u) Q X.xe s₂) X.xe s₁) X.xe s := by
  refine thn (ha pins s σ H _ I h) fun v s1 ⟨x, H1, I1, r1, q1⟩ => ?_
  refine thn (hb pins s1 σ H1 _ I1 q1) fun u s2 ⟨y, H2, I2, r2, q2⟩ => ?_
  exact hf v u s2 x y H2 I2 r1 r2 q2
theorem pe_op {op : Operator} {r : R2} (ho : OpR X (binaryOp op) r) (ha : PE X a ta) (hb : PE X b tb) : PE X (.BinOp a op b pos) (tOp r ta tb) := by
  intro pins s σ H Q I h
  exact wpAny_BinOp (binT ha hb I h fun v u s2 x y H2 I2 rx ry q => ho pins s2 σ H2 x y v u Q I2 rx ry q)
theorem pe_un {op : UnaryOp} {r : V → Hp → VK → Prop} (ho : UnR X (unaryOp op) r) (ha : PE X a ta) : PE X (.UnaryOp op a pos) (tUn r ta) := by
  intro pins s σ H Q I h
  exact UnaryOp_ (thn (ha pins s σ H _ I h) fun v s1 ⟨x, H1, I1, r1, q1⟩ => ho pins s1 σ H1 x v Q I1 r1 q1)
theorem opI {f : Value → Value → Sem Value} {C : Int → Int → Prop} {g : Int → Int → Int}
    (rule : ∀ (i j : Int) (t u : Tok) (s : Shared) (Q : Value → Shared → Prop) (E : Value → Shared → Prop), C i j → Q (.int (g i j) s.toks) { s with toks := s.toks + 1 } → wpAny (model X.prog X.w) X.A (f (.int i t) (.int j u)) Q E s) :
    OpR X f (rI C fun i j => .int (g i j)) := by
  intro pins s σ H x y v u Q I rx ry h
  obtain ⟨i, j, rfl, rfl, hc, q⟩ := h
  obtain ⟨t, rfl⟩ := rx
  obtain ⟨t', rfl⟩ := ry
  exact rule i j t t' s _ _ hc ⟨.int (g i j), H, I.tok _, ⟨_, rfl⟩, q⟩
theorem opI0 {f : Value → Value → Sem Value} {g : Int → Int → Int}
    (rule : ∀ (i j : Int) (t u : Tok) (s : Shared) (Q : Value → Shared → Prop) (E : Value → Shared → Prop), Q (.int (g i j) s.toks) { s with toks := s.toks + 1 } → wpAny (model X.prog X.w) X.A (f (.int i t) (.int j u)) Q E s) :
    OpR X f (rI0 fun i j => .int (g i j)) := by
  intro pins s σ H x y v u Q I rx ry h
  obtain ⟨i, j, rfl, rfl, q⟩ := h
  obtain ⟨t, rfl⟩ := rx
  obtain ⟨t', rfl⟩ := ry
  exact rule i j t t' s _ _ ⟨.int (g i j), H, I.tok _, ⟨_, rfl⟩, q⟩
theorem opB0 {f : Value → Value → Sem Value} {g : Int → Int → Bool}
    (rule : ∀ (i j : Int) (t u : Tok) (s : Shared) (Q : Value → Shared → Prop) (E : Value → Shared → Prop), Q (.bool (g i j)) s → wpAny (model X.prog X.w) X.A (f (.int i t) (.int j u)) Q E s) :
    OpR X f (rI0 fun i j => .bl (g i j)) := by
  intro pins s σ H x y v u Q I rx ry h
  obtain ⟨i, j, rfl, rfl, q⟩ := h
  obtain ⟨t, rfl⟩ := rx
  obtain ⟨t', rfl⟩ := ry
  exact rule i j t t' s _ _ ⟨.bl (g i j), H, I, rfl, q⟩
noncomputable def CPow (i j : Int) : Prop := 0 ≤ j ∧ j ≤ 1000000 ∧ i.natAbs < 2 ^ 64
noncomputable def CMul (i j : Int) : Prop := (-(2 ^ 64) < i ∧ i < 2 ^ 64) ∨ (-(2 ^ 64) < j ∧ j < 2 ^ 64)
theorem CMul.ok {i j : Int} (h : CMul i j) : IntMulOk i j := by
  rcases h with ⟨h1, h2⟩ | ⟨h1, h2⟩
  · exact .of_left (intBits_le_64 h1 h2)
  · exact .of_right (intBits_le_64 h1 h2)
theorem op_add : OpR X (binaryOp .Add) (rI0 fun i j => .int (i + j)) := opI0 fun _ _ _ _ _ _ _ q => add_int q
theorem op_sub : OpR X (binaryOp .Sub) (rI0 fun i j => .int (i - j)) := opI0 fun _ _ _ _ _ _ _ q => sub_int q
theorem op_mod : OpR X (binaryOp .Mod) (rI (fun _ j => 0 < j) fun i j => .int (i % j)) := opI fun i j _ _ _ _ _ hc q => by
  have h1 : (0 : Int) < j := hc
  exact mod_int' (by omega) (by rw [Int.fmod_eq_emod_of_nonneg i (by omega)]; exact q)
theorem op_pow : OpR X (binaryOp .Pow) (rI CPow fun i j => .int (i ^ j.toNat)) := opI fun _ _ _ _ _ _ _ hc q => pow_int_small hc.1 hc.2.1 hc.2.2 q
theorem unI {f : Value → Sem Value} {g : Int → Int}
    (rule : ∀ (i : Int) (t : Tok) (s : Shared) (Q : Value → Shared → Prop) (E : Value → Shared → Prop), Q (.int (g i) s.toks) { s with toks := s.toks + 1 } → wpAny (model X.prog X.w) X.A (f (.int i t)) Q E s) :
    UnR X f (rU fun i => .int (g i)) := by
  intro pins s σ H x v Q I rx h
  obtain ⟨i, rfl, q⟩ := h
  obtain ⟨t, rfl⟩ := rx
  exact rule i t s _ _ ⟨.int (g i), H, I.tok _, ⟨_, rfl⟩, q⟩
theorem un_neg : UnR X (unaryOp .USub) (rU fun i => .int (-i)) := unI fun _ _ _ _ _ q => neg_int q
end
noncomputable def scal : V → V → Bool
  | .non, .non => true | .non, .int _ => true | .int _, .non => true | .non, .bl _ => true | .bl _, .non => true | .non, .str _ => true | .str _, .non => true
  | .int _, .int _ => true | .bl _, .bl _ => true | .str _, .str _ => true | .byt _, .byt _ => true
  | .int _, .str _ => true | .str _, .int _ => true | .bl _, .str _ => true | .str _, .bl _ => true
  | _, _ => false
noncomputable def rEq : R2 := fun x y H Q => scal x y = true ∧ Q (.bl (decide (x = y))) H
noncomputable def rNe : R2 := fun x y H Q => scal x y = true ∧ Q (.bl (!decide (x = y))) H
theorem dec_int {i j : Int} : decide (V.int i = V.int j) = (i == j) := by
  rw [Bool.eq_iff_iff]
  simp
theorem dec_bl {i j : Bool} : decide (V.bl i = V.bl j) = (i == j) := by
  rw [Bool.eq_iff_iff]
  simp
theorem dec_str {i j : Str} : decide (V.str i = V.str j) = (i == j) := by
  rw [Bool.eq_iff_iff]
  simp
theorem dec_byt {i j : Array UInt8} : decide (V.byt i = V.byt j) = (i.toList == j.toList) := by
  rw [Bool.eq_iff_iff]
  cases i
  cases j
  simp
section
variable {X : Cx} {a b c : Expr} {ta tb tc : TE} {pos : Pos}
theorem fin_bl {pins : List (Addr × Obj)} {σ : St} {H : Hp} {s : Shared} {Q : VK} {k k' : Bool} (I : Inv X pins σ H s) (q : Q (.bl k) H) (e : k = k') : EP X pins σ Q (.bool k') s := by
  subst e
  exact ⟨.bl k, H, I, rfl, q⟩
theorem op_eq : OpR X (compareOp .Eq) rEq := by
  intro pins s σ H x y v u Q I rx ry h
  obtain ⟨hs, q⟩ := h
  cases x with
  | non =>
    cases rx
    cases y with
    | non => cases ry; exact PySem.EqNone.eq_none_none (fin_bl I q (by simp))
    | bl j => cases ry; exact PySem.EqNone.eq_none_bool (fin_bl I q (by simp))
    | int j => obtain ⟨t', rfl⟩ := ry; exact PySem.EqNone.eq_none_int (fin_bl I q (by simp))
    | str j => obtain ⟨t', rfl⟩ := ry; exact PySem.EqNone.eq_none_str (fin_bl I q (by simp))
    | _ => exact absurd (show false = true from hs) Bool.false_ne_true
  | bl i =>
    cases rx
    cases y with
    | non => cases ry; exact PySem.EqNone.eq_bool_none (fin_bl I q (by simp))
    | bl j => cases ry; exact eq_bool (fin_bl I q dec_bl)
    | str j => obtain ⟨t', rfl⟩ := ry; exact PySem.EqMixed.eq_bool_str (fin_bl I q (by simp))
    | _ => exact absurd (show false = true from hs) Bool.false_ne_true
  | int i =>
    obtain ⟨t, rfl⟩ := rx
    cases y with
    | non => cases ry; exact PySem.EqNone.eq_int_none (fin_bl I q (by simp))
    | int j => obtain ⟨t', rfl⟩ := ry; exact eq_int (fin_bl I q dec_int)
    | str j => obtain ⟨t', rfl⟩ := ry; exact PySem.EqMixed.eq_int_str (fin_bl I q (by simp))
    | _ => exact absurd (show false = true from hs) Bool.false_ne_true
  | str i =>
    obtain ⟨t, rfl⟩ := rx
    cases y with
    | non => cases ry; exact PySem.EqNone.eq_str_none (fin_bl I q (by simp))
    | bl j => cases ry; exact PySem.EqMixed.eq_str_bool (fin_bl I q (by simp))
    | int j => obtain ⟨t', rfl⟩ := ry; exact PySem.EqMixed.eq_str_int (fin_bl I q (by simp))
    | str j => obtain ⟨t', rfl⟩ := ry; exact eq_str (fin_bl I q dec_str)
    | _ => exact absurd (show false = true from hs) Bool.false_ne_true
  | byt i =>
    obtain ⟨t, rfl⟩ := rx
    cases y with
    | byt j => obtain ⟨t', rfl⟩ := ry; exact PySem.W.eq_bytes (fin_bl I q dec_byt)
    | _ => exact absurd (show false = true from hs) Bool.false_ne_true
  | _ => cases y <;> exact absurd (show false = true from hs) Bool.false_ne_true
theorem op_ne : OpR X (compareOp .NotEq) rNe := by
  intro pins s σ H x y v u Q I rx ry h
  obtain ⟨hs, q⟩ := h
  cases x with
  | non =>
    cases rx
    cases y with
    | non => cases ry; exact PySem.EqNone.ne_none_none (fin_bl I q (by simp))
    | bl j => cases ry; exact PySem.EqNone.ne_none_bool (fin_bl I q (by simp))
    | int j => obtain ⟨t', rfl⟩ := ry; exact PySem.EqNone.ne_none_int (fin_bl I q (by simp))
    | str j => obtain ⟨t', rfl⟩ := ry; exact PySem.EqNone.ne_none_str (fin_bl I q (by simp))
    | _ => exact absurd (show false = true from hs) Bool.false_ne_true
  | bl i =>
    cases rx
    cases y with
    | non => cases ry; exact PySem.EqNone.ne_bool_none (fin_bl I q (by simp))
    | bl j => cases ry; exact ne_bool (fin_bl I q (congrArg not dec_bl))
    | str j => obtain ⟨t', rfl⟩ := ry; exact PySem.EqMixed.ne_bool_str (fin_bl I q (by simp))
    | _ => exact absurd (show false = true from hs) Bool.false_ne_true
  | int i =>
    obtain ⟨t, rfl⟩ := rx
    cases y with
    | non => cases ry; exact PySem.EqNone.ne_int_none (fin_bl I q (by simp))
    | int j => obtain ⟨t', rfl⟩ := ry; exact ne_int (fin_bl I q (congrArg not dec_int))
    | str j => obtain ⟨t', rfl⟩ := ry; exact PySem.EqMixed.ne_int_str (fin_bl I q (by simp))
    | _ => exact absurd (show false = true from hs) Bool.false_ne_true
  | str i =>
    obtain ⟨t, rfl⟩ := rx
    cases y with
    | non => cases ry; exact PySem.EqNone.ne_str_none (fin_bl I q (by simp))
    | bl j => cases ry; exact PySem.EqMixed.ne_str_bool (fin_bl I q (by simp))
    | int j => obtain ⟨t', rfl⟩ := ry; exact PySem.EqMixed.ne_str_int (fin_bl I q (by simp))
    | str j => obtain ⟨t', rfl⟩ := ry; exact ne_str (fin_bl I q (congrArg not dec_str))
    | _ => exact absurd (show false = true from hs) Bool.false_ne_true
  | byt i =>
    obtain ⟨t, rfl⟩ := rx
    cases y with
    | byt j => obtain ⟨t', rfl⟩ := ry; exact PySem.W.ne_bytes (fin_bl I q (congrArg not dec_byt))
    | _ => exact absurd (show false = true from hs) Bool.false_ne_true
  | _ => cases y <;> exact absurd (show false = true from hs) Bool.false_ne_true
theorem op_lt : OpR X (compareOp .Lt) (rI0 fun i j => .bl (decide (i < j))) := opB0 fun _ _ _ _ _ _ _ q => lt_int q
theorem op_le : OpR X (compareOp .LtE) (rI0 fun i j => .bl (decide (i ≤ j))) := opB0 fun _ _ _ _ _ _ _ q => le_int q
theorem op_gt : OpR X (compareOp .Gt) (rI0 fun i j => .bl (decide (j < i))) := opB0 fun _ _ _ _ _ _ _ q => gt_int q
theorem op_ge : OpR X (compareOp .GtE) (rI0 fun i j => .bl (decide (j ≤ i))) := opB0 fun _ _ _ _ _ _ _ q => ge_int q
theorem nomark (b : Expr) {op : CmpOp} (h : op ≠ .In := by decide) (h2 : op ≠ .NotIn := by decide) : behindInMarks op b = false := by
  have e1 : (op == CmpOp.In) = false := by cases op <;> first | rfl | exact absurd rfl h
  have e2 : (op == CmpOp.NotIn) = false := by cases op <;> first | rfl | exact absurd rfl h2
  cases b <;> simp [behindInMarks, e1, e2]
noncomputable def tTest (t : TE) : TT := fun σ H Q => t σ H fun x H' => ∃ k, x = .bl k ∧ Q k H'
theorem pt_cmpR {op : CmpOp} {r : R2} (ho : OpR X (compareOp op) r) (ha : PE X a ta) (hb : PE X b tb) (hm : behindInMarks op b = false) : PT X (.Compare a [op] [b] pos) (tTest (tOp r ta tb)) := by
  intro pins s σ H Q I h
  refine wpAny_isTrue_Compare1 (thn (ha pins s σ H _ I h) fun v s1 ⟨x, H1, I1, r1, q1⟩ => thn (hb pins s1 σ H1 _ I1 q1) fun u s2 ⟨y, H2, I2, r2, q2⟩ =>
    thn (ho pins s2 σ H2 x y v u _ I2 r1 r2 q2) fun c s3 ⟨z, H3, I3, r3, k, e, q3⟩ => ?_) hm
  subst e
  cases r3
  exact wpAny_truthy_bool ⟨H3, I3, q3⟩
theorem line63 : (sizeLine : Nat) < 2 ^ 63 := by rw [sizeLine_eq]; decide
theorem vals1 {x : V} {us : List Value} (r : Vals [x] us) : ∃ u, us = [u] ∧ RelV x u := by
  cases r with
  | cons r1 r2 => cases r2; exact ⟨_, rfl, r1⟩
theorem vals2 {x y : V} {us : List Value} (r : Vals [x, y] us) : ∃ u w', us = [u, w'] ∧ RelV x u ∧ RelV y w' := by
  cases r with
  | cons r1 r2 =>
    cases r2 with
    | cons r3 r4 => cases r4; exact ⟨_, _, rfl, r1, r3⟩
theorem call_min2 (hc : X.calm = true) : CallR X (.builtin "min") (fun xs H Q => ∃ i j, xs = [.int i, .int j] ∧ Q (.int (if j < i then j else i)) H) := by
  intro pins s σ H xs us Q I r h
  obtain ⟨i, j, rfl, q⟩ := h
  obtain ⟨u, w', rfl, ⟨t, rfl⟩, ⟨t', rfl⟩⟩ := vals2 r
  refine min_two_ints (I.ok.hd hc) fun h' tk k => ⟨_, H, I.kept k, ?_, q⟩
  by_cases hj : j < i
  · rw [if_pos hj, if_pos hj]; exact ⟨_, rfl⟩
  · rw [if_neg hj, if_neg hj]; exact ⟨_, rfl⟩
end
end L2
namespace L2
open PySem PySem.Spec PyProof.Rows
structure ObjM (h : Heap) (x dx C : Addr) (mA : Str → Option Value) : Prop where
  obj : h.get? x = some (PySem.W.instObj C dx)
  ns : h.Ns1 dx mA
  ne : dx ≠ x
theorem lookIn_ns {h : Heap} {dx : Addr} {mA : Str → Option Value} (n : h.Ns1 dx mA) : ∃ od, h.get? dx = some od ∧ ∀ name, PySem.W.lookIn name od = some (mA name) := by
  obtain ⟨o, es, ep, ho, hd, hk, _, hm⟩ := n
  refine ⟨o, ho, fun name => ?_⟩
  have e := hm name
  unfold nsFind findBy at e
  rw [← Array.find?_toList] at e
  unfold PySem.W.lookIn
  rw [hd]
  dsimp only
  split
  · rename_i y q
    rw [q] at e
    exact congrArg some e
  · rename_i q
    rw [q] at e
    have a : es.toList.any (·.refKey) = false := by
      rw [List.any_eq_false]
      intro y hy
      obtain ⟨z, t, hkey⟩ := hk y (Array.mem_toList_iff.mp hy)
      simp [DictEntry.refKey, hkey]
    have a' : ¬ es.toList.any (·.refKey) = true := by rw [a]; exact Bool.false_ne_true
    rw [if_neg a']
    exact congrArg some e
theorem ObjM.look {h : Heap} {x dx C : Addr} {mA : Str → Option Value} (I : ObjM h x dx C mA) : ∃ od, PySem.W.InstAt h x (PySem.W.instObj C dx) C (some od) ∧ ∀ name, PySem.W.lookIn name od = some (mA name) :=
  let ⟨od, ho, hl⟩ := lookIn_ns I.ns
  ⟨od, ⟨I.obj, rfl, rfl, ho⟩, hl⟩
section
variable {prog : Program} {w : World} {A : Around} {E : Value → Shared → Prop} {s : Shared} {K : PySem.W.Frag} {x dx C f : Addr} {mA : Str → Option Value} {name : Str} {v : Value}
end
section
variable {P : Program} {w : World} {H H' : Hp} {h h' : Heap} {a C dx : Addr} {fs fs' : List (Str × V)}
theorem ins_get (hok : HOk P w H h) (e : H a = some (.ins C dx fs)) : ∃ mA, ObjM h a dx C mA ∧ (∀ f, RelO (fs.lookup f) (mA f)) ∧ PySem.Within mA (fs.map (·.1)) ∧ fs.length ≤ 1000 ∧ H dx = some (.own a) := by
  obtain ⟨d, z, ne, ob, mA, n, r, q⟩ := (show ObjOk P w H h a (.ins C dx fs) from hok a _ e)
  exact ⟨mA, ⟨ob, n, ne⟩, r, q, z, d⟩
end
structure Cls (K : PySem.W.Frag) (C : Addr) : Prop where
  pg : PySem.W.plainGet K C Str.empty = true
  hd : PySem.W.hasDictIn K C = true
  po : PySem.W.plainOver K C = true
  sa : PySem.W.findIn K (.ref C) "__setattr__" = some (some (.builtin "object.__setattr__"))
theorem Cls.get {K : PySem.W.Frag} {C : Addr} (c : Cls K C) (f : Str) : PySem.W.plainGet K C f = true := c.pg
section
variable {X : Cx} {pins : List (Addr × Obj)} {σ : St} {H : Hp} {s : Shared} {a C dx : Addr} {fs : List (Str × V)} {f : Str} {v : V} {A : Around} {E : Value → Shared → Prop}
end
section
variable {X : Cx} {o e value : Expr} {f : Str} {pos pos' tpos : Pos} {ta tv : TE}
end
section
variable {X : Cx} {pins : List (Addr × Obj)} {σ : St} {H : Hp} {s : Shared} {A : Around} {E : Value → Shared → Prop} {Q : Value → Shared → Prop} {c : Value} {b : Bool}
inductive TyOf (K : PySem.W.Frag) (H : Hp) : V → Value → Prop where
  | non : TyOf K H .non (.type "NoneType")
  | bl (x : Bool) : TyOf K H (.bl x) (.type "bool")
  | int (i : Int) : TyOf K H (.int i) (.type "int")
  | str (x : Str) : TyOf K H (.str x) (.type "str")
  | flt (x : UInt64) : TyOf K H (.flt x) (.type "float")
  | lst {a : Addr} {xs : List V} (e : H a = some (.lst xs)) : TyOf K H (.ref a) (.type "list")
  | frz {a : Addr} {o : Obj} {xs : List V} (e : H a = some (.frz o (.lst xs))) : TyOf K H (.ref a) (.type "list")
  | tup {a : Addr} {xs : List V} (e : H a = some (.tup xs)) : TyOf K H (.ref a) (.type "tuple")
  | dK {a : Addr} {kvs : List (Key × V)} (e : H a = some (.dK kvs)) : TyOf K H (.ref a) (.type "dict")
  | dT {a : Addr} {kvs : List (List Key × V)} (e : H a = some (.dT kvs)) : TyOf K H (.ref a) (.type "dict")
  | ins {a C dx : Addr} {fs : List (Str × V)} (e : H a = some (.ins C dx fs)) (cl : Cls K C) (ha : PySem.W.findIn K (.ref C) "__class__" = some (some (.builtin "object.__class__")))
      (hn : PySem.W.specialIn K (.builtin "object.__class__") "__get__" = some (some (.builtin "getset_descriptor.__get__"))) (htk : PySem.W.takesIn K (.builtin "object.__class__") = some true)
      (hm : PySem.W.mroIn K C (.type "object") = some true) : TyOf K H (.ref a) (.ref C)
theorem isinst_ok {x : V} {u t : Value} (I : Inv X pins σ H s) (rx : RelV x u) (ty : TyOf X.K H x t) (e : PySem.W.kitOne X.K t c = some b) (h : ∀ tk, Q (.bool b) { s with toks := tk }) :
    wpAny (model X.prog X.w) A (call (.builtin "isinstance") [u, c]) Q E s := by
  cases ty with
  | non => cases (show u = Value.none from rx); exact PySem.W.kia_one PySem.W.kitx_none I.kIn True.intro e (fun z => nomatch z) h
  | bl y => cases (show u = Value.bool y from rx); exact PySem.W.kia_one PySem.W.kitx_bool I.kIn True.intro e (fun z => nomatch z) h
  | int i => obtain ⟨t, q⟩ := (show ∃ t, u = Value.int i t from rx); cases q; exact PySem.W.kia_one PySem.W.kitx_int I.kIn True.intro e (fun z => nomatch z) h
  | str y => obtain ⟨t, q⟩ := (show ∃ t, u = Value.str y t from rx); cases q; exact PySem.W.kia_one PySem.W.kitx_str I.kIn True.intro e (fun z => nomatch z) h
  | flt y => obtain ⟨t, q⟩ := (show ∃ t, u = Value.float y t from rx); cases q; exact PySem.W.kia_one PySem.W.kitx_float I.kIn True.intro e (fun z => nomatch z) h
  | @lst a xs ea =>
    cases (show u = Value.ref a from rx)
    obtain ⟨_, _, n, _, h1⟩ := (show ObjOk X.prog X.w H s.heap a (.lst xs) from I.hok a _ ea)
    exact PySem.W.kia_one PySem.W.kitx_list I.kIn ⟨_, h1, rfl⟩ e (fun z => nomatch z) h
  | @frz a ob xs ea =>
    cases (show u = Value.ref a from rx)
    obtain ⟨_, _, _, n, _, h1⟩ := (show ObjOk X.prog X.w H s.heap a (.frz ob (.lst xs)) from I.hok a _ ea)
    exact PySem.W.kia_one PySem.W.kitx_list I.kIn ⟨_, h1, rfl⟩ e (fun z => nomatch z) h
  | @tup a xs ea =>
    cases (show u = Value.ref a from rx)
    obtain ⟨_, _, _, p⟩ := (show ObjOk X.prog X.w H s.heap a (.tup xs) from I.hok a _ ea)
    obtain ⟨o, h1, h2, _⟩ := p
    exact PySem.W.kia_one PySem.W.kitx_tuple I.kIn ⟨o, h1, h2⟩ e (fun z => nomatch z) h
  | @dK a kvs ea =>
    cases (show u = Value.ref a from rx)
    obtain ⟨_, _, vs, _, p⟩ := (show ObjOk X.prog X.w H s.heap a (.dK kvs) from I.hok a _ ea)
    obtain ⟨o, es, ep, h1, h2, _⟩ := p
    exact PySem.W.kia_one PySem.W.kitx_dict I.kIn ⟨o, h1, h2.1⟩ e (fun z => nomatch z) h
  | @dT a kvs ea =>
    cases (show u = Value.ref a from rx)
    obtain ⟨_, _, xs, _, o, es, ep, h1, h2, _⟩ := (show ObjOk X.prog X.w H s.heap a (.dT kvs) from I.hok a _ ea)
    exact PySem.W.kia_one PySem.W.kitx_dict I.kIn ⟨o, h1, h2.1⟩ e (fun z => nomatch z) h
  | @ins a C dx fs ea cl ha hn htk hm =>
    cases (show u = Value.ref a from rx)
    obtain ⟨mA, O, _⟩ := ins_get I.hok ea
    obtain ⟨od, J, _⟩ := O.look
    exact PySem.W.kia_one (PySem.W.kitx_own (cl.get _) cl.hd ha hn htk hm) I.kIn J e (fun z => nomatch z) h
end
end L2
namespace L2
open PySem PySem.Spec PyProof.Rows
structure Room (k : Nat) (A : Around) : Prop where
  hd : A.handled = none
  dp : A.depth + 3 * k + 5 < recursionLimit
  un : A.units + 16 * k + 200 < cLine
theorem Room.mono {j k : Nat} {A : Around} (r : Room k A) (h : j ≤ k) : Room j A := ⟨r.hd, by have := r.dp; omega, by have := r.un; omega⟩
theorem Room.deeper {k : Nat} {A : Around} (r : Room (k + 1) A) (env : Env) : Room k (A.deeper env) :=
  ⟨r.hd, by have := r.dp; show A.depth + 1 + 3 * k + 5 < _; omega, by have := r.un; show A.units + 3 + 16 * k + 200 < _; omega⟩
theorem Room.in1 {k : Nat} {A : Around} (r : Room (k + 1) A) : Room k A.in1 :=
  ⟨r.hd, by have := r.dp; show A.depth + 3 * k + 5 < _; omega, by have := r.un; show A.units + 1 + 16 * k + 200 < _; omega⟩
theorem Room.depth {k : Nat} {A : Around} (r : Room k A) : A.depth < recursionLimit := by have := r.dp; omega
theorem Room.units {k : Nat} {A : Around} (r : Room k A) : A.units + 64 < cLine := by have := r.un; omega
noncomputable def tNil : TA := fun _ H Q => Q [] H
noncomputable def tCons (ta : TE) (tr : TA) : TA := fun σ H Q => ta σ H fun x H1 => tr σ H1 fun xs H2 => Q (x :: xs) H2
section
variable {X : Cx} {e : Expr} {es : List Expr} {te : TE} {t : TA} {pos : Pos}
theorem pa_nil : PA X [] tNil := fun _ _ _ _ H Q I h => Calls.spliced_nil ⟨[], H, I, .nil, h⟩
theorem pa_cons (ha : PE X e te) (hr : PA X es t) (hs : starEach (e :: es) X.env = (false, eval e X.env) :: starEach es X.env := by rfl) : PA X (e :: es) (tCons te t) := by
  intro pos pins s σ H Q I h
  rw [hs]
  show wpAny _ _ (spliced ((false, eval e X.env) :: backTo pos (starEach es X.env))) _ _ s
  refine Calls.spliced_cons (thn (ha pins s σ H _ I h) fun u s1 ⟨x, H1, I1, r1, q1⟩ => ?_)
  exact thn (hr pos pins s1 σ H1 _ I1 q1) fun us s2 ⟨xs, H2, I2, r2, q2⟩ => ⟨x :: xs, H2, I2, .cons r1 r2, q2⟩
end
noncomputable abbrev Sp := List V → Hp → VK → XK → Prop
noncomputable abbrev CXT := List Env → Hp → Shared → XK → Value → Shared → Prop
structure Env0 (P : Program) (w : World) (K : PySem.W.Frag) (mg : Str → Option Value) (base : Heap) (A : Around) (outer : List Env) (s : Shared) (H : Hp) : Prop where
  frames : A.frames = some outer
  mod : Mod K mg base
  bs : ∀ b o, base.get? b = some o → s.heap.get? b = some o ∧ H b = none
  bsz : base.objs.size ≤ s.heap.objs.size
  funs : s.heap.FunFrames base outer
  frf : ∀ b ∈ frs outer, H b = none
  hok : HOk P w H s.heap
  bare : AllBare s.gens
noncomputable def CE (outer : List Env) (P : Program) (w : World) (H : Hp) (s : Shared) (Q : VK) (u : Value) (s' : Shared) : Prop :=
  ∃ v H', s'.os = s.os ∧ AllBare s'.gens ∧ Un (frs outer) [] H H' s.heap s'.heap ∧ HOk P w H' s'.heap ∧ RelV v u ∧ Q v H'
noncomputable def CR (CX : CXT) (outer : List Env) (P : Program) (w : World) (H : Hp) (s : Shared) (Q : VK) (E : XK) (r : Result) (s' : Shared) : Prop :=
  match r with
  | .ok (.ret u) => CE outer P w H s Q u s'
  | .ok _ => False
  | .error e => CX outer H s E e s'
structure FnOk (P : Program) (w : World) (K : PySem.W.Frag) (mg : Str → Option Value) (base : Heap) (CX : CXT) (k : Nat) (f : Addr) (fd : FuncData) (ps : List Str) (sp : Sp) : Prop where
  len : ∀ vs H Q E, sp vs H Q E → vs.length = ps.length
  run : ∀ (A : Around) (outer : List Env) (s : Shared) (H : Hp) (args : Args) (us : List Value) (vs : List V) (Q : VK) (E : XK), Room k A → Env0 P w K mg base A outer s H → BindsTo s fd args (ps.zip us) → Vals vs us → sp vs H Q E →
    codeAny (model P w) A (.call (.ref f) args) (CR CX outer P w H s Q E) s
theorem FnOk.mono {P : Program} {w : World} {K : PySem.W.Frag} {mg : Str → Option Value} {base : Heap} {CX : CXT} {j k : Nat} {f : Addr} {fd : FuncData} {ps : List Str} {sp : Sp} (F : FnOk P w K mg base CX j f fd ps sp) (h : j ≤ k) :
    FnOk P w K mg base CX k f fd ps sp := ⟨F.len, fun A outer s H args us vs Q E hr => F.run A outer s H args us vs Q E (hr.mono h)⟩
theorem Env0.in1 {P : Program} {w : World} {K : PySem.W.Frag} {mg : Str → Option Value} {base : Heap} {A : Around} {outer : List Env} {s : Shared} {H : Hp} (e : Env0 P w K mg base A outer s H) :
    Env0 P w K mg base A.in1 outer s H := ⟨e.frames, e.mod, e.bs, e.bsz, e.funs, e.frf, e.hok, e.bare⟩
section
variable {X : Cx} {pins : List (Addr × Obj)} {σ : St} {H : Hp} {s s' : Shared}
theorem Inv.env0 (I : Inv X pins σ H s) : Env0 X.prog X.w X.K X.mg X.base X.A X.stack s H :=
  ⟨I.ok.frames, I.ok.mod, I.bs, Nat.le_trans I.ok.bsz I.sz, I.stack, I.stkFree, I.hok, I.bare⟩
theorem Inv.after {Q : VK} {u : Value} (I : Inv X pins σ H s) (h : CE X.stack X.prog X.w H s Q u s') : EP X pins σ Q u s' := by
  obtain ⟨v, H', os, bare, un, hok, r, q⟩ := h
  obtain ⟨hh, g, d, t, os'⟩ := s'
  obtain rfl : os' = s.os := os
  exact ⟨v, H', I.call (h' := hh) (g' := g) (d' := d) (t' := t) (ch := []) un hok bare (fun b z => absurd z (by simp)), r, q⟩
end
noncomputable def tCall (sp : Sp) (dvs : List V) (E : XK) (t : TA) : TE := fun σ H Q => t σ H fun vs H1 => sp (vs ++ dvs) H1 Q E
noncomputable def Binds (K : PySem.W.Frag) (fd : FuncData) (ps : List Str) (ds : List Value) : Prop :=
  ∀ (s : Shared) (us : List Value), K.In s.heap → (us ++ ds).length = ps.length → BindsTo s fd ⟨us, []⟩ (ps.zip (us ++ ds))
theorem Binds.all {K : PySem.W.Frag} {fd : FuncData} {ps : List Str} (h : ∀ us : List Value, us.length = ps.length → bindArgs fd ⟨us, []⟩ = pure (ps.zip us)) : Binds K fd ps [] := fun s us _ hl => by
  rw [List.append_nil] at hl ⊢
  exact .of_eq (h us hl)
noncomputable def Passes (CX : CXT) (X : Cx) (E : XK) : Prop := ∀ (pins : List (Addr × Obj)) (σ : St) (H : Hp) (s : Shared) (e : Value) (s' : Shared), Inv X pins σ H s → CX X.stack H s E e s' → X.xe e s'
section
variable {X : Cx} {CX : CXT} {k : Nat} {f C : Addr} {fd : FuncData} {ps : List Str} {sp : Sp} {dvs : List V} {ds : List Value} {E : XK} {x m : Str} {p pos apos : Pos} {e o : Expr} {es : List Expr} {ta : TE} {t : TA}
theorem run_fn {pins : List (Addr × Obj)} {σ : St} {H : Hp} {s : Shared} {Q : VK} {us : List Value} {vs : List V} (F : FnOk X.prog X.w X.K X.mg X.base CX k f fd ps sp) (hr : Room k X.A) (hb : Binds X.K fd ps ds) (hd : Vals dvs ds) (hx : Passes CX X E)
    (I : Inv X pins σ H s) (r : Vals vs us) (h : sp (vs ++ dvs) H Q E) : wpAny (model X.prog X.w) X.A (call (.ref f) us) (EP X pins σ Q) X.xe s := by
  have r2 : Vals (vs ++ dvs) (us ++ ds) := r.append hd
  have hl : (us ++ ds).length = ps.length := by rw [← r2.length]; exact F.len _ _ _ _ h
  refine wpAny_call (codeAny_mono (F.run X.A X.stack s H ⟨us, []⟩ (us ++ ds) (vs ++ dvs) Q E hr I.env0 (hb s us I.kIn hl) r2 h) fun r s' hq => ?_)
  cases r with
  | error e => exact hx pins σ H s e s' I hq
  | ok fl =>
    cases fl with
    | ret u => exact I.after hq
    | next => exact False.elim hq
    | brk => exact False.elim hq
    | cont => exact False.elim hq
theorem pe_call (F : FnOk X.prog X.w X.K X.mg X.base CX k f fd ps sp) (hr : Room k X.A) (hg : Gl X x) (hm : X.mg x = some (.ref f)) (hk : PySem.W.keepIn X.K (.ref f) = true) (hb : Binds X.K fd ps ds) (hd : Vals dvs ds) (hx : Passes CX X E)
    (ha : PA X (e :: es) t) (hdb : (x == ("__debug__" : Str)) = false := by decide) (he : starEach (e :: es) X.env = (false, eval e X.env) :: starEach es X.env := by rfl) (hpl : (backTo pos (starEach es X.env)).any (·.1) = false := by rfl) :
    PE X (.Call (.Name x p) (e :: es) [] pos) (tCall sp dvs E t) := by
  intro pins s σ H Q I h
  refine wpAny_Call_Name_kw (ld_glob I hg hm ?_ hdb)
  refine PySem.W.callWith_K (h₀ := X.base) I.ok.mod.kin hk (thn (ha pos pins s σ H _ I h) fun us s1 ⟨vs, H1, I1, r, q⟩ => ⟨I1.kIn, ?_⟩) he hpl
  exact run_fn F hr hb hd hx I1 r q
end
section
variable {X : Cx} {CX : CXT} {k : Nat} {f C : Addr} {fd : FuncData} {ps ks : List Str} {sp : Sp} {E : XK} {x m : Str} {p pos apos kpos : Pos} {e o : Expr} {es : List Expr} {kws : List Keyword} {te ta : TE} {t tk : TA} {nm : Option Str}
variable {g : List Value → List Value → List Value} {gV : List V → List V → List V}
end
structure FnScope (N P : List Str) (sc : Scope) : Prop where
  kind : sc.kind = .function
  co : sc.isCoroutine = false
  gen : sc.isGenerator = false
  nd : N.Nodup
  pre : N.take P.length = P
  par : ∀ x ∈ P, sc.names.lookup x = some .local ∨ sc.names.lookup x = some .cell
  nofree : ∀ y ∈ sc.names, y.2 ≠ .free
theorem bindL_out {kindOf : Str → Option NameKind} {x : Str} : ∀ {binds : List (Str × Value)} {m : Str → Option Value}, (∀ v, (x, v) ∉ binds) → bindL kindOf binds m x = m x
  | [], _, _ => rfl
  | (n, v) :: r, m, h => by
    unfold bindL
    rw [bindL_out fun w hw => h w (List.mem_cons_of_mem _ hw)]
    split
    · have : x ≠ n := by rintro rfl; exact h v List.mem_cons_self
      simp [this]
    · rfl
theorem bindC_out {kindOf : Str → Option NameKind} {x : Str} : ∀ {binds : List (Str × Value)} {m : Str → Option Value}, (∀ v, (x, v) ∉ binds) → bindC kindOf binds m x = m x
  | [], _, _ => rfl
  | (n, v) :: r, m, h => by
    unfold bindC
    rw [bindC_out fun w hw => h w (List.mem_cons_of_mem _ hw)]
    split
    · rfl
    · have : x ≠ n := by rintro rfl; exact h v List.mem_cons_self
      simp [this]
theorem bindL_get {kindOf : Str → Option NameKind} {x : Str} {v : Value} : ∀ {P : List Str} {vs : List Value} {i : Nat} {m : Str → Option Value}, P.Nodup → P[i]? = some x → vs[i]? = some v → kindOf x = some .local →
    bindL kindOf (P.zip vs) m x = some v
  | [], _, _, _, _, h, _, _ => by simp at h
  | _ :: _, [], _, _, _, _, h, _ => by simp at h
  | p :: P, w :: vs, 0, m, nd, h1, h2, hk => by
    simp at h1 h2; subst h1; subst h2
    show bindL kindOf ((p, w) :: P.zip vs) m p = _
    unfold bindL
    rw [bindL_out fun v hv => (List.nodup_cons.mp nd).1 (List.of_mem_zip hv).1, if_pos hk]
    simp
  | p :: P, w :: vs, i + 1, m, nd, h1, h2, hk => by
    show bindL kindOf ((p, w) :: P.zip vs) m x = _
    unfold bindL
    exact bindL_get (i := i) (List.nodup_cons.mp nd).2 (by simpa using h1) (by simpa using h2) hk
theorem bindC_get {kindOf : Str → Option NameKind} {x : Str} {v : Value} : ∀ {P : List Str} {vs : List Value} {i : Nat} {m : Str → Option Value}, P.Nodup → P[i]? = some x → vs[i]? = some v → kindOf x ≠ some .local →
    bindC kindOf (P.zip vs) m x = some v
  | [], _, _, _, _, h, _, _ => by simp at h
  | _ :: _, [], _, _, _, _, h, _ => by simp at h
  | p :: P, w :: vs, 0, m, nd, h1, h2, hk => by
    simp at h1 h2; subst h1; subst h2
    show bindC kindOf ((p, w) :: P.zip vs) m p = _
    unfold bindC
    rw [bindC_out fun v hv => (List.nodup_cons.mp nd).1 (List.of_mem_zip hv).1, if_neg hk]
    simp
  | p :: P, w :: vs, i + 1, m, nd, h1, h2, hk => by
    show bindC kindOf ((p, w) :: P.zip vs) m x = _
    unfold bindC
    exact bindC_get (i := i) (List.nodup_cons.mp nd).2 (by simpa using h1) (by simpa using h2) hk
noncomputable def start (N : List Str) (vs : List V) : St := vs.map some ++ List.replicate (N.length - vs.length) none
noncomputable def cxOf (CX : CXT) (P : Program) (w : World) (K : PySem.W.Frag) (mg : Str → Option Value) (base : Heap) (N : List Str) (qual : Str) (scope : Scope) (f : Addr) (cd : Value) (A : Around) (outer : List Env) (s : Shared) (H : Hp) (E : XK) : Cx where
  prog := P
  w := w
  K := K
  mg := mg
  base := base
  A := A.deeper (envOfC qual scope s.heap.objs.size f cd)
  N := N
  s₀ := s
  H₀ := H
  env := envOfC qual scope s.heap.objs.size f cd
  outer := outer
  stack := envOfC qual scope s.heap.objs.size f cd :: outer
  ex := []
  calm := true
  fn := fun _ => true
  pn := []
  xe := fun e s' => wpAny (model P w) (A.deeper (envOfC qual scope s.heap.objs.size f cd)) (leaving (envOfC qual scope s.heap.objs.size f cd) e) (fun _ s'' => CX outer H s E e s'') (fun e' s'' => CX outer H s E e' s'') s'
theorem cell_has {sc : Scope} {n : Nat} {x : Str} (h : sc.names.lookup x = some .cell) : ∃ c, (cellsFrom n sc.names []).lookup x = some c := by
  have q := PySem.W.cellsFrom_some sc.names n [] (.inl h)
  exact Option.isSome_iff_exists.mp q
theorem inv_start {CX : CXT} {P : Program} {w : World} {K : PySem.W.Frag} {mg : Str → Option Value} {base : Heap} {N ps : List Str} {qual : Str} {scope : Scope} {f : Addr} {cd : Value} {A : Around} {outer : List Env} {s s1 : Shared} {H : Hp} {E : XK} {us : List Value} {vs : List V}
    (S : FnScope N ps scope) (hd : A.handled = none) (e0 : Env0 P w K mg base A outer s H) (hl : vs.length = ps.length) (r : Vals vs us)
    (x : InCallC s s.heap.objs.size (bindL (envOfC qual scope s.heap.objs.size f cd).kindOf (ps.zip us) fun _ => none) (cellsFrom (s.heap.objs.size + 1) scope.names []) (bindC (envOfC qual scope s.heap.objs.size f cd).kindOf (ps.zip us) fun _ => none) s1) :
    Inv (cxOf CX P w K mg base N qual scope f cd A outer s H E) [] (start N vs) H s1 := by
  have hpl : ps.length ≤ N.length := by have := congrArg List.length S.pre; rw [List.length_take] at this; omega
  obtain ⟨h1, tk, rfl, hk⟩ := x.done
  have noA : ∀ b : Addr, b ∉ (cxOf CX P w K mg base N qual scope f cd A outer s H E).ex := fun b z => absurd (show b ∈ ([] : List Addr) from z) (by simp)
  refine ⟨⟨e0.mod, S.kind, rfl, rfl, Nat.le_refl _, fun y z c h1 h2 => ?_, fun y hy => ?_, fun y c _ h => ?_, fun _ => hd, Around.frames_deeper e0.frames, .inr ⟨rfl, rfl⟩, fun b z => absurd z (noA b), e0.bs, e0.bsz, fun b _ _ => noA b, fun b z => absurd z (noA b), e0.funs, e0.frf⟩,
    rfl, e0.bare, Un.kept hk, ⟨_, x.toInCall.ns, fun i y v h1 h2 h3 => ?_⟩, fun y c h => ⟨_, x.cell y c h⟩, e0.hok.fresh (Nat.le_refl _), fun y c h => ?_, fun p hp => absurd (show p ∈ ([] : List (Addr × Obj)) from hp) (by simp), e0.hok.kept hk, ?_⟩
  · exact name_of_addr x.apart (PySem.mem_of_lookup h1) (PySem.mem_of_lookup h2)
  · have hy : scope.names.lookup y = some .cell ∨ scope.names.lookup y = some .free := hy
    rcases hy with hy | hy
    · exact cell_has hy
    · exact absurd rfl (S.nofree _ (PySem.mem_of_lookup hy))
  · exact Nat.le_of_lt (x.above y c (PySem.mem_of_lookup h))
  · have hi : i < vs.length := by
      unfold start at h2
      by_cases hi : i < vs.length
      · exact hi
      · rw [List.getElem?_append_right (by simpa using hi)] at h2
        rw [List.getElem?_replicate] at h2
        split at h2 <;> cases h2
    have ha : vs[i]? = some v := by
      unfold start at h2
      rw [List.getElem?_append_left (by simpa using hi), List.getElem?_map] at h2
      cases e : vs[i]? with
      | none => rw [e] at h2; cases h2
      | some a => rw [e] at h2; cases h2; rfl
    obtain ⟨u, hu, rv⟩ := r.get ha
    have hp : ps[i]? = some y := by
      rw [← S.pre, List.getElem?_take_of_lt (by omega)]; exact h1
    have ndP : ps.Nodup := by rw [← S.pre]; exact S.nd.sublist (List.take_sublist _ _)
    refine ⟨u, rv, ?_⟩
    rcases S.par y (List.mem_of_getElem? hp) with k | k
    · exact .inl ⟨k, bindL_get ndP hp hu k⟩
    · obtain ⟨c, e⟩ := cell_has (n := s.heap.objs.size + 1) k
      refine .inr ⟨.inl k, c, e, ?_⟩
      have q := x.cell y c e
      rw [bindC_get ndP hp hu (by show scope.names.lookup y ≠ _; rw [k]; decide)] at q
      exact q
  · exact e0.hok.fresh (Nat.le_of_lt (x.above y c (PySem.mem_of_lookup h)))
  · unfold start
    show _ = N.length
    rw [List.length_append, List.length_map, List.length_replicate]
    omega
theorem fn_of {CX : CXT} {P : Program} {w : World} {K : PySem.W.Frag} {mg : Str → Option Value} {base : Heap} {k : Nat} {f : Addr} {name qual : Str} {params : Arguments} {body : List Stmt} {scope : Scope} {dV kV doc pm cdv ct oc : Value} {an od : Option Addr}
    {osl : Array (Option Value)} {N ps : List Str} {sp : Sp} (lk : K.lookup f = some ⟨oc, od, .func (PySem.W.fnOf name qual params body scope dV kV doc pm an cdv ct), osl⟩) (hcd : PySem.W.codeIn K cdv qual = true) (S : FnScope N ps scope)
    (len : ∀ vs H Q E, sp vs H Q E → vs.length = ps.length)
    (hbody : ∀ (A : Around) (outer : List Env) (s : Shared) (H : Hp) (vs : List V) (Q : VK) (E : XK), Room k (A.deeper (envOfC qual scope s.heap.objs.size f cdv)) → sp vs H Q E →
      ∃ t, PSs (cxOf CX P w K mg base N qual scope f cdv A outer s H E) body t ∧ t { nx := fun _ H' => Q .non H', rt := Q } (start N vs) H) :
    FnOk P w K mg base CX (k + 1) f (PySem.W.fnOf name qual params body scope dV kV doc pm an cdv ct) ps sp := by
  refine ⟨len, fun A outer s H args us vs Q E hr e0 hb r hsp => ?_⟩
  have hl := len _ _ _ _ hsp
  have KX : K.In s.heap := e0.mod.kin.keeps fun b o e => (e0.bs b o e).1
  have lim : s.heap.NoLimit := e0.mod.nolimit.keeps fun b o e => (e0.bs b o e).1
  have hkind : ∀ y ∈ ps.zip us, scope.names.lookup y.1 = some .local ∨ (scope.names.lookup y.1 = some .cell ∧ ((cellsFrom (s.heap.objs.size + 1) scope.names []).lookup y.1).isSome = true) := fun ⟨n, v⟩ hy => by
    rcases S.par n (List.of_mem_zip hy).1 with q | q
    · exact .inl q
    · exact .inr ⟨q, PySem.W.cellsFrom_some _ _ _ (.inl q)⟩
  refine codeAny_call_function hr.depth (KX _ _ lk) rfl S.co S.gen rfl (PySem.W.codeRec_of KX hcd) (hb _ _ _ _ ?_)
  refine wpAny_newFunctionEnv_cells S.kind hkind fun env he s1 x => ?_
  subst he
  refine ⟨lim.keeps x.toInCall.keep, codeAny_func ?_⟩
  obtain ⟨t, ht, hq⟩ := hbody A outer s H vs Q E (hr.deeper _) hsp
  have I : Inv (cxOf CX P w K mg base N qual scope f cdv A outer s H E) [] (start N vs) H s1 := inv_start S hr.hd e0 hl r x
  refine wpAny_mono (ht [] s1 (start N vs) H _ I hq) (fun fl s' hs => ?_) fun e s' hs => hs
  have fin : ∀ {σ' : St} {H' : Hp} {v : V} {u : Value}, Inv (cxOf CX P w K mg base N qual scope f cdv A outer s H E) [] σ' H' s' → RelV v u → Q v H' → CE outer P w H s Q u s' :=
    fun {σ' H' v u} J rv q => ⟨v, H', J.os, J.bare, J.base, J.hok, rv, q⟩
  cases fl with
  | ret u =>
    obtain ⟨v, σ', H', J, rv, q⟩ := hs
    exact fin J rv q
  | next =>
    obtain ⟨σ', H', J, q⟩ := hs
    exact fin (v := V.non) (u := Value.none) J rfl q
  | brk =>
    obtain ⟨_, _, _, q⟩ := hs
    exact False.elim q
  | cont =>
    obtain ⟨_, _, _, q⟩ := hs
    exact False.elim q
end L2
namespace L2
open PySem PySem.Spec PyProof.Rows
section
variable {X : Cx} {x : Str} {p pos : Pos} {e : Expr} {es : List Expr} {t : TA} {id T : String} {r : List V → Hp → VK → Prop}
noncomputable def tCB (r : List V → Hp → VK → Prop) (t : TA) : TE := fun σ H Q => t σ H fun vs H1 => r vs H1 Q
theorem pe_callB (hc : CallR X (.builtin id) r) (hg : Gl X x) (hm : X.mg x = none) (hv : bootBuiltins x = some (.builtin id)) (ha : PA X (e :: es) t) (hn : x ≠ "__name__" := by decide) (hdb : (x == ("__debug__" : Str)) = false := by decide)
    (he : starEach (e :: es) X.env = (false, eval e X.env) :: starEach es X.env := by rfl) (hpl : (backTo pos (starEach es X.env)).any (·.1) = false := by rfl) : PE X (.Call (.Name x p) (e :: es) [] pos) (tCB r t) := by
  intro pins s σ H Q I h
  refine wpAny_Call_Name_kw (ld_blt I hg hm hv ?_ hn hdb)
  exact PyProof.Rows.callWith_builtin1 (thn (ha pos pins s σ H _ I h) fun us s1 ⟨vs, H1, I1, r1, q1⟩ => hc pins s1 σ H1 vs us Q I1 r1 q1) he hpl
theorem pe_callTy (hc : CallR X (.type T) r) (hg : Gl X x) (hm : X.mg x = none) (hv : bootBuiltins x = some (.type T)) (ha : PA X (e :: es) t) (hn : x ≠ "__name__" := by decide) (hdb : (x == ("__debug__" : Str)) = false := by decide)
    (he : starEach (e :: es) X.env = (false, eval e X.env) :: starEach es X.env := by rfl) (hpl : (backTo pos (starEach es X.env)).any (·.1) = false := by rfl) : PE X (.Call (.Name x p) (e :: es) [] pos) (tCB r t) := by
  intro pins s σ H Q I h
  refine wpAny_Call_Name_kw (ld_blt I hg hm hv ?_ hn hdb)
  exact PyProof.Rows.callWith_type1 (thn (ha pos pins s σ H _ I h) fun us s1 ⟨vs, H1, I1, r1, q1⟩ => hc pins s1 σ H1 vs us Q I1 r1 q1) he hpl
end
end L2
namespace HT
open PySem PyProof.Rows
section
open PySem.SeqAt
open PySem.AutoSeq1 (wpAny_loadPart')
open PySem.MeetsSeq PySem.MeetsSeq2 PySem.MeetsSeq3
end
section
variable {prog : Program} {w : World} {A : Around} {E : Value → Shared → Prop} {s : Shared}
noncomputable def sIx (n d : Nat) : Option Int → Nat
  | none => d
  | some v => if v < 0 then (v + (n : Int)).toNat else min v.toNat n
theorem sIx_none (n d : Nat) : sIx n d none = d := rfl
theorem sIx_nat (n d k : Nat) : sIx n d (some (k : Int)) = min k n := by
  show (if (k : Int) < 0 then ((k : Int) + (n : Int)).toNat else min (k : Int).toNat n) = min k n
  rw [if_neg (by omega), Int.toNat_natCast]
end
end HT
namespace L2
open PySem PySem.Spec PyProof.Rows
noncomputable abbrev TO := St → Hp → (Option Int → Hp → Prop) → Prop
noncomputable def PO (X : Cx) (e : Option Expr) (t : TO) : Prop :=
  ∀ (pins : List (Addr × Obj)) (s : Shared) (σ : St) (H : Hp) (Q : Option Int → Hp → Prop), Inv X pins σ H s → t σ H Q →
    wpAny (model X.prog X.w) X.A (evalPart e X.env) (fun u s' => ∃ o H', Inv X pins σ H' s' ∧ IsPart u o ∧ Q o H') X.xe s
noncomputable def tNoPart : TO := fun _ H Q => Q none H
noncomputable def tPart (t : TE) : TO := fun σ H Q => t σ H fun x H1 => ∃ i, x = .int i ∧ Q (some i) H1
section
variable {X : Cx} {e : Expr} {te : TE} {lo hi : Option Expr} {tl th : TO} {pos p2 : Pos}
theorem po_none : PO X none tNoPart := by
  intro pins s σ H Q I h
  rw [evalPart_none]
  exact wpAny_pure ⟨none, H, I, .none, h⟩
theorem po_some (h : PE X e te) : PO X (some e) (tPart te) := by
  intro pins s σ H Q I hw
  rw [evalPart_some]
  refine thn (h pins s σ H _ I hw) fun u s1 ⟨x, H1, I1, r1, q1⟩ => ?_
  obtain ⟨i, rfl, q⟩ := q1
  obtain ⟨t, rfl⟩ := r1
  exact ⟨some i, H1, I1, .int i t, q⟩
noncomputable def SlR (X : Cx) (r : V → Option Int → Option Int → Hp → VK → Prop) : Prop :=
  ∀ (pins : List (Addr × Obj)) (s : Shared) (σ : St) (H : Hp) (x : V) (v vl vu : Value) (lo hi : Option Int) (sl : Addr) (Q : VK), Inv X pins σ H s → RelV x v → s.heap.IsSliceOf sl vl vu .none → IsPart vl lo → IsPart vu hi → r x lo hi H Q →
    ∃ T id, typeLookup (.type T) "__getitem__" = pure (some (.builtin id)) ∧ s.TypeIs v T ∧ wpAny (model X.prog X.w) X.A (getItem v (.ref sl)) (EP X pins σ Q) X.xe s
noncomputable def tSl (r : V → Option Int → Option Int → Hp → VK → Prop) (te : TE) (tl th : TO) : TE := fun σ H Q => te σ H fun x H1 => tl σ H1 fun l H2 => th σ H2 fun u H3 => r x l u H3 Q
theorem pe_slice {r : V → Option Int → Option Int → Hp → VK → Prop} (hr : SlR X r) (he : PE X e te) (hl : PO X lo tl) (hu : PO X hi th) : PE X (.Subscript e (.Slice lo hi none p2) pos) (tSl r te tl th) := by
  intro pins s σ H Q I h
  refine Subscript_ (thn (he pins s σ H _ I h) fun v s1 ⟨x, H1, I1, r1, q1⟩ => ?_)
  refine wpAny_Slice (thn (hl pins s1 σ H1 _ I1 q1) fun vl s2 ⟨l, H2, I2, pl, q2⟩ => thn (hu pins s2 σ H2 _ I2 q2) fun vu s3 ⟨u, H3, I3, pu, q3⟩ => ?_)
  rw [evalPart_none]
  refine wpAny_pure ?_
  have I4 : Inv X pins σ H3 { s3 with heap := s3.heap.push { cls := .type "slice", data := .fields #[vl, vu, .none] } } := I3.kept (t' := s3.toks) fun b ob q => Heap.get?_push_of_some _ q
  obtain ⟨T, id, hT, ht, hg⟩ := hr pins { s3 with heap := s3.heap.push { cls := .type "slice", data := .fields #[vl, vu, .none] } } σ H3 x v vl vu l u s3.heap.objs.size Q I4 r1 (Heap.IsSliceOf.new ..) pl pu q3
  show wpAny (model X.prog X.w) X.A (subscriptTail e (.Slice lo hi none p2) v (.ref s3.heap.objs.size)) (EP X pins σ Q) X.xe { s3 with heap := s3.heap.push { cls := .type "slice", data := .fields #[vl, vu, .none] } }
  exact tail_any (ops := [.ref s3.heap.objs.size, v]) ht hT hg (by with_unfolding_all rfl)
noncomputable def cutV (xs : List V) (lo hi : Option Int) : List V := (xs.drop (HT.sIx xs.length 0 lo)).take (HT.sIx xs.length xs.length hi - HT.sIx xs.length 0 lo)
theorem cutV_length (xs : List V) (lo hi : Option Int) : (cutV xs lo hi).length ≤ xs.length := by
  unfold cutV
  rw [List.length_take, List.length_drop]
  omega
end
end L2
namespace L2
open PySem PySem.Spec PyProof.Rows
noncomputable def ixN (n : Nat) (i : Int) : Option Nat := if 0 ≤ i then (if i < n then some i.toNat else none) else if -(n : Int) ≤ i then some (i + n).toNat else none
noncomputable def atI {α : Type} (xs : List α) (i : Int) : Option α := (ixN xs.length i).bind fun j => xs[j]?
theorem ixN_seq {n : Nat} {i : Int} {j : Nat} (h : ixN n i = some j) : seqIndex? i n = some j ∧ j < n ∧ -(n : Int) ≤ i ∧ i < n := by
  unfold ixN at h
  by_cases h0 : 0 ≤ i
  · rw [if_pos h0] at h
    by_cases h1 : i < n
    · rw [if_pos h1] at h
      have e : i.toNat = j := Option.some.inj h
      exact ⟨by rw [seqIndex_of h0 h1, e], by omega, by omega, h1⟩
    · rw [if_neg h1] at h; cases h
  · rw [if_neg h0] at h
    by_cases h1 : -(n : Int) ≤ i
    · rw [if_pos h1] at h
      have e : (i + n).toNat = j := Option.some.inj h
      exact ⟨by rw [seqIndex_neg (by omega) h1, e], by omega, h1, by omega⟩
    · rw [if_neg h1] at h; cases h
theorem atI_get {α : Type} {xs : List α} {i : Int} {v : α} (h : atI xs i = some v) : ∃ j, seqIndex? i xs.length = some j ∧ xs[j]? = some v ∧ j < xs.length ∧ -(xs.length : Int) ≤ i ∧ i < xs.length := by
  unfold atI at h
  cases e : ixN xs.length i with
  | none => rw [e] at h; cases h
  | some j =>
    rw [e] at h
    obtain ⟨h1, h2, h3, h4⟩ := ixN_seq e
    exact ⟨j, h1, h, h2, h3, h4⟩
theorem atI_nat {α : Type} {xs : List α} {j : Nat} {v : α} (h : xs[j]? = some v) : atI xs (j : Int) = some v := by
  have hj : j < xs.length := (List.getElem?_eq_some_iff.mp h).1
  have e : ixN xs.length (j : Int) = some j := by
    unfold ixN
    rw [if_pos (by omega), if_pos (by omega)]; simp
  unfold atI; rw [e]; exact h
noncomputable def PlainIx (b : Expr) : Prop := ∀ o i, subscripted b false o i = operate [o, i] (getItem o i)
noncomputable def IxR (X : Cx) (r : R2) : Prop :=
  ∀ (value slice : Expr) (pins : List (Addr × Obj)) (s : Shared) (σ : St) (H : Hp) (x y : V) (v u : Value) (Q : VK), Inv X pins σ H s → RelV x v → RelV y u → r x y H Q →
    subscripted slice false v u = operate [v, u] (getItem v u) → wpAny (model X.prog X.w) X.A (subscriptTail value slice v u) (EP X pins σ Q) X.xe s
noncomputable def MtR (X : Cx) (id : String) (r : V → List V → Hp → VK → Prop) : Prop :=
  ∀ (pins : List (Addr × Obj)) (s : Shared) (σ : St) (H : Hp) (x : V) (xs : List V) (v : Value) (us : List Value) (Q : VK), Inv X pins σ H s → RelV x v → Vals xs us → r x xs H Q →
    wpAny (model X.prog X.w) X.A (call (.builtin id) (v :: us)) (EP X pins σ Q) X.xe s
section
variable {X : Cx} {a b : Expr} {ta tb : TE} {pos : Pos}
theorem pe_ix {r : R2} (hr : IxR X r) (ha : PE X a ta) (hb : PE X b tb) (hs : PlainIx b) : PE X (.Subscript a b pos) (tOp r ta tb) := by
  intro pins s σ H Q I h
  exact Subscript_ (binT ha hb I h fun v u s2 x y H2 I2 rx ry q => hr a b pins s2 σ H2 x y v u Q I2 rx ry q (hs _ _))
noncomputable def rIxL (K : PySem.W.Frag) : R2 := fun x y H Q => ∃ p xs i v, x = .ref p ∧ y = .int i ∧ SqL K H p xs ∧ atI xs i = some v ∧ Q v H
noncomputable def rIxT (K : PySem.W.Frag) : R2 := fun x y H Q => ∃ p xs i v, x = .ref p ∧ y = .int i ∧ SqT K H p xs ∧ atI xs i = some v ∧ Q v H
theorem ix_list : IxR X (rIxL X.K) := by
  intro value slice pins s σ H x y v u Q I rx ry h hs
  obtain ⟨p, xs, i, z, rfl, rfl, hq, he, q⟩ := h
  cases rx
  obtain ⟨t, rfl⟩ := ry
  obtain ⟨its, r, pl, hz⟩ := I.list hq
  obtain ⟨j, h1, h2, h3, h4, h5⟩ := atI_get he
  obtain ⟨w, ew, rw'⟩ := r.get h2
  have hl := r.length
  have hn := line63
  have fin : EP X pins σ Q w s := ⟨z, H, I, rw', q⟩
  by_cases h0 : 0 ≤ i
  · have hj : i.toNat = j := by
      rw [seqIndex_of h0 h5] at h1
      exact Option.some.inj h1
    exact item_listR pl.isList h0 (by omega) (by rw [hj]; simpa using ew) fin hs
  · have hj : (i + (its.toArray.size : Int)).toNat = j := by
      rw [seqIndex_neg (by omega) h4] at h1
      rw [List.size_toArray, ← hl]
      exact Option.some.inj h1
    exact subscriptTail_builtinR (x := w) pl.isList.typeIs slot_list_getitem.lookup
      (wpAny_getItem_list_neg (Q := fun r s' => r = w ∧ EP X pins σ Q r s') pl.isList (by omega) (by rw [List.size_toArray] <;> omega) (by omega) (by rw [hj]; simpa using ew) ⟨rfl, fin⟩) hs
theorem ix_tup : IxR X (rIxT X.K) := by
  intro value slice pins s σ H x y v u Q I rx ry h hs
  obtain ⟨p, xs, i, z, rfl, rfl, hq, he, q⟩ := h
  cases rx
  obtain ⟨t, rfl⟩ := ry
  obtain ⟨its, r, pl, hz⟩ := I.tuple hq
  obtain ⟨j, h1, h2, h3, h4, h5⟩ := atI_get he
  obtain ⟨w, ew, rw'⟩ := r.get h2
  have hl := r.length
  have hn := line63
  have fin : EP X pins σ Q w s := ⟨z, H, I, rw', q⟩
  exact subscriptTail_builtinR (x := w) pl.typeIs slot_tuple_getitem.lookup
    (getItem_tuple (j := j) (Q := fun r s' => r = w ∧ EP X pins σ Q r s') pl (by omega) (by omega) (by rw [List.size_toArray, ← hl]; exact h1) (by simpa using ew) ⟨rfl, fin⟩) hs
theorem mapSeq_set (its : List Value) (n j : Nat) (u : Value) : Obj.mapSeq (·.setIfInBounds j u) { cls := .type "list", data := .seq its.toArray n } = { cls := .type "list", data := .seq (its.set j u).toArray n } := by
  simp [Obj.mapSeq]
theorem Inv.lst {pins : List (Addr × Obj)} {σ : St} {H : Hp} {s : Shared} {p : Addr} {xs : List V} (I : Inv X pins σ H s) (h : H p = some (.lst xs)) :
    ∃ (its : List Value) (n : Nat), Vals xs its ∧ s.heap.get? p = some { cls := .type "list", data := .seq its.toArray n } ∧ xs.length ≤ sizeLine := by
  obtain ⟨z, its, n, r, e⟩ := I.hok p _ h
  exact ⟨its, n, r, e, z⟩
theorem Inv.lstUpd {pins : List (Addr × Obj)} {σ : St} {H : Hp} {s : Shared} {p : Addr} {xs ys : List V} {its its' : List Value} {n n' : Nat} {f : Obj → Obj} (I : Inv X pins σ H s) (h : H p = some (.lst xs))
    (ho : s.heap.get? p = some { cls := .type "list", data := .seq its.toArray n }) (hf : f { cls := .type "list", data := .seq its.toArray n } = { cls := .type "list", data := .seq its'.toArray n' }) (r : Vals ys its') (hz : ys.length ≤ sizeLine) (t : Nat) :
    Inv X pins σ (upd H p (.lst ys)) { s with heap := s.heap.update p f, toks := t } := by
  have e : (s.heap.update p f).get? p = some { cls := .type "list", data := .seq its'.toArray n' } := by
    rw [Heap.get?_update_self f ho (by rw [hf] <;> rfl), hf]
  refine I.write (x := p) (e := p) (by rw [h]; trivial) (.inl rfl) (fun b u hb q => (Heap.get?_update_other _ _ (Ne.symm hb)).trans q) ⟨_, e⟩ ?_
  exact ⟨hz, its', n', r, e⟩
noncomputable def rSetL : V → V → V → Hp → (Hp → Prop) → Prop := fun o i v H Q => ∃ p xs k j, o = .ref p ∧ i = .int k ∧ H p = some (.lst xs) ∧ ixN xs.length k = some j ∧ Q (upd H p (.lst (xs.set j v)))
theorem set_list : PSet X rSetL := by
  intro pins s σ H o i v ov iv u Q I ro ri rv h
  obtain ⟨p, xs, k, j, rfl, rfl, hp, hj, q⟩ := h
  cases ro
  obtain ⟨t, rfl⟩ := ri
  obtain ⟨its, n, r, ho, hz⟩ := I.lst hp
  obtain ⟨h1, h2, h3, h4⟩ := ixN_seq hj
  have hl := r.length
  have hn := line63
  have I' : Inv X pins σ (upd H p (.lst (xs.set j v))) { s with heap := s.heap.update p (Obj.mapSeq (·.setIfInBounds j u)) } :=
    I.lstUpd hp ho (mapSeq_set its n j u) (r.set rv j) (by rw [List.length_set]; exact hz) s.toks
  by_cases h0 : 0 ≤ k
  · have hk : k.toNat = j := by
      rw [seqIndex_of h0 h4] at h1
      exact Option.some.inj h1
    exact PySem.W.ki_setAt ho h0 (by omega) (by rw [List.size_toArray, ← hl]; exact h4) (by rw [hk]; exact ⟨_, I', q⟩)
  · have hk : (k + (its.toArray.size : Int)).toNat = j := by
      rw [seqIndex_neg (by omega) h3] at h1
      rw [List.size_toArray, ← hl]
      exact Option.some.inj h1
    exact PySem.W.ki_setBack ho (by omega) (by rw [List.size_toArray, ← hl]; exact h3) (by omega) (by rw [hk]; exact ⟨_, I', q⟩)
theorem slice_bounds (lo hi : Option Int) (n : Nat) : (sliceBounds lo hi none n).1 = ((HT.sIx n 0 lo : Nat) : Int) ∧ (sliceBounds lo hi none n).2.1 = ((HT.sIx n n hi : Nat) : Int) ∧ (sliceBounds lo hi none n).2.2 = 1 := by
  refine ⟨?_, ?_, rfl⟩
  · cases lo with
    | none => simp [sliceBounds, HT.sIx]
    | some i =>
      simp only [sliceBounds, HT.sIx, Option.getD_none, show (1 : Int) > 0 by decide, if_true]
      by_cases h : i < 0
      · simp only [h, if_true] <;> omega
      · simp only [h, if_false] <;> omega
  · cases hi with
    | none => simp [sliceBounds, HT.sIx]
    | some i =>
      simp only [sliceBounds, HT.sIx, Option.getD_none, show (1 : Int) > 0 by decide, if_true]
      by_cases h : i < 0
      · simp only [h, if_true] <;> omega
      · simp only [h, if_false] <;> omega
theorem slicePick_cut (its : List Value) (lo hi : Option Int) : slicePick its.toArray lo hi none = ((its.drop (HT.sIx its.length 0 lo)).take (HT.sIx its.length its.length hi - HT.sIx its.length 0 lo)).toArray := by
  obtain ⟨h1, h2, h3⟩ := slice_bounds lo hi its.toArray.size
  unfold slicePick
  rw [h1, h2, h3]
  simp only [sliceRange_one, pick_run, List.size_toArray] <;> rfl
noncomputable def rSlL (K : PySem.W.Frag) : V → Option Int → Option Int → Hp → VK → Prop := fun x lo hi H Q => ∃ a xs, x = .ref a ∧ SqL K H a xs ∧ ∀ p, H p = none → Q (.ref p) (upd H p (.lst (cutV xs lo hi)))
theorem sl_list : SlR X (rSlL X.K) := by
  intro pins s σ H x v vl vu lo hi sl Q I rx hs pl pu h
  obtain ⟨a, xs, rfl, hx, q⟩ := h
  cases rx
  obtain ⟨its, r, ht, hz⟩ := I.list hx
  have hlen := r.length
  refine ⟨"list", _, slot_list_getitem.lookup, ht.isList.typeIs, ?_⟩
  refine wpAny_getItem_list_slice ht.isList hs pl pu .none (by simp) ?_ (by rw [List.size_toArray] <;> omega)
  rw [slicePick_cut, ← hlen]
  refine ⟨.ref s.heap.objs.size, _, I.laid (t' := s.toks) (o := .lst (cutV xs lo hi)) (fun b ob q => Heap.get?_push_of_some _ q) (Nat.le_refl _) ?_, rfl, q _ (I.hok.fresh (Nat.le_refl _))⟩
  exact ⟨Nat.le_trans (cutV_length xs lo hi) hz, _, 0, (r.drop (HT.sIx xs.length 0 lo)).take (HT.sIx xs.length xs.length hi - HT.sIx xs.length 0 lo), Heap.get?_push_size _ rfl⟩
noncomputable def flatV : V → Bool
  | .non => true
  | .bl _ => true
  | .int _ => true
  | .str _ => true
  | _ => false
noncomputable def eqV : V → V → Bool
  | .non, .non => true
  | .bl a, .bl b => a == b
  | .bl a, .int b => (if a then 1 else 0) == b
  | .int a, .bl b => a == (if b then 1 else 0)
  | .int a, .int b => a == b
  | .str a, .str b => a == b
  | _, _ => false
theorem eqAt_V {A : Around} {s : Shared} {y x : V} {u v : Value} (ry : RelV y u) (rx : RelV x v) (fy : flatV y = true) (fx : flatV x = true) : SeqAt.EqAt A s u v (eqV y x) := by
  cases y with
  | non =>
    cases ry
    cases x with
    | non => cases rx; exact SeqAt.EqAt.same _
    | bl b => cases rx; exact SeqAt.EqAt.none_bool b
    | int b => obtain ⟨t, rfl⟩ := rx; exact SeqAt.EqAt.none_int b t
    | str b => obtain ⟨t, rfl⟩ := rx; exact SeqAt.EqAt.none_str b t
    | _ => exact absurd (show false = true from fx) Bool.false_ne_true
  | bl a =>
    cases ry
    cases x with
    | non => cases rx; exact SeqAt.EqAt.bool_none a
    | bl b => cases rx; exact SeqAt.EqAt.bool_bool a b
    | int b => obtain ⟨t, rfl⟩ := rx; exact SeqAt.EqAt.bool_int a b t
    | str b => obtain ⟨t, rfl⟩ := rx; exact SeqAt.EqAt.bool_str a b t
    | _ => exact absurd (show false = true from fx) Bool.false_ne_true
  | int a =>
    obtain ⟨t', rfl⟩ := ry
    cases x with
    | non => cases rx; exact SeqAt.EqAt.int_none a t'
    | bl b => cases rx; exact SeqAt.EqAt.int_bool a t' b
    | int b => obtain ⟨t, rfl⟩ := rx; exact SeqAt.EqAt.int_int a t' b t
    | str b => obtain ⟨t, rfl⟩ := rx; exact SeqAt.EqAt.int_str a t' b t
    | _ => exact absurd (show false = true from fx) Bool.false_ne_true
  | str a =>
    obtain ⟨t', rfl⟩ := ry
    cases x with
    | non => cases rx; exact SeqAt.EqAt.str_none a t'
    | bl b => cases rx; exact SeqAt.EqAt.str_bool a t' b
    | int b => obtain ⟨t, rfl⟩ := rx; exact SeqAt.EqAt.str_int a t' b t
    | str b => obtain ⟨t, rfl⟩ := rx; exact SeqAt.EqAt.str_str a t' b t
    | _ => exact absurd (show false = true from fx) Bool.false_ne_true
  | _ => exact absurd (show false = true from fy) Bool.false_ne_true
noncomputable def eqU (x : V) (u : Value) : Bool := match u with
  | .none => eqV .non x
  | .bool b => eqV (.bl b) x
  | .int i _ => eqV (.int i) x
  | .str z _ => eqV (.str z) x
  | _ => false
theorem eqU_of {x y : V} {u : Value} (r : RelV y u) (f : flatV y = true) : eqU x u = eqV y x := by
  cases y with
  | non => cases r; rfl
  | bl b => cases r; rfl
  | int i => obtain ⟨t, rfl⟩ := r; rfl
  | str z => obtain ⟨t, rfl⟩ := r; rfl
  | _ => exact absurd (show false = true from f) Bool.false_ne_true
theorem any_eqU {x : V} : ∀ {xs : List V} {us : List Value}, Vals xs us → xs.all flatV = true → us.any (eqU x) = xs.any fun y => eqV y x
  | _, _, .nil, _ => rfl
  | y :: xs, u :: us, .cons r t, f => by
    rw [List.all_cons, Bool.and_eq_true] at f
    rw [List.any_cons, List.any_cons, eqU_of r f.1, any_eqU t f.2]
theorem mem_eqAt {A : Around} {s : Shared} {x : V} {v : Value} (rx : RelV x v) (fx : flatV x = true) : ∀ {xs : List V} {us : List Value}, Vals xs us → xs.all flatV = true → ∀ u ∈ us, SeqAt.EqAt A s u v (eqU x u)
  | _, _, .nil, _ => fun u hu => by cases hu
  | y :: xs, u :: us, .cons r t, f => fun u' hu => by
    rw [List.all_cons, Bool.and_eq_true] at f
    rcases List.mem_cons.mp hu with rfl | hu
    · rw [eqU_of r f.1]; exact eqAt_V r rx f.1 fx
    · exact mem_eqAt rx fx t f.2 u' hu
noncomputable def inV (x : V) (xs : List V) : Bool := xs.any fun y => eqV y x
noncomputable def rIn (K : PySem.W.Frag) (neg : Bool) : R2 := fun x y H Q => ∃ p xs, y = .ref p ∧ (SqL K H p xs ∨ SqT K H p xs) ∧ flatV x = true ∧ xs.all flatV = true ∧ Q (.bl (if neg then !inV x xs else inV x xs)) H
theorem op_in_seq : OpR X (compareOp .In) (rIn X.K false) := by
  intro pins s σ H x y v u Q I rx ry h
  obtain ⟨p, xs, rfl, hq, fx, fs, q⟩ := h
  cases ry
  rcases hq with hq | hq
  · obtain ⟨its, r, pl, hz⟩ := I.list hq
    refine SeqAt.in_listAt (eqU x) pl.isList (fun w hw => mem_eqAt rx fx r fs w (by simpa using hw)) ⟨.bl _, H, I, rfl, ?_⟩
    rw [show its.toArray.any (eqU x) = its.any (eqU x) by simp, any_eqU r fs]
    exact q
  · obtain ⟨its, r, pl, hz⟩ := I.tuple hq
    refine SeqAt.in_tupleAt (eqU x) pl (fun w hw => mem_eqAt rx fx r fs w (by simpa using hw)) ⟨.bl _, H, I, rfl, ?_⟩
    rw [show its.toArray.any (eqU x) = its.any (eqU x) by simp, any_eqU r fs]
    exact q
theorem op_notIn_seq : OpR X (compareOp .NotIn) (rIn X.K true) := by
  intro pins s σ H x y v u Q I rx ry h
  obtain ⟨p, xs, rfl, hq, fx, fs, q⟩ := h
  cases ry
  rcases hq with hq | hq
  · obtain ⟨its, r, pl, hz⟩ := I.list hq
    refine SeqAt.notIn_listAt (eqU x) pl.isList (fun w hw => mem_eqAt rx fx r fs w (by simpa using hw)) ⟨.bl _, H, I, rfl, ?_⟩
    rw [show its.toArray.any (eqU x) = its.any (eqU x) by simp, any_eqU r fs]
    exact q
  · obtain ⟨its, r, pl, hz⟩ := I.tuple hq
    refine SeqAt.notIn_tupleAt (eqU x) pl (fun w hw => mem_eqAt rx fx r fs w (by simpa using hw)) ⟨.bl _, H, I, rfl, ?_⟩
    rw [show its.toArray.any (eqU x) = its.any (eqU x) by simp, any_eqU r fs]
    exact q
theorem call_len_seq : CallR X (.builtin "len") (fun xs H Q => ∃ p ys, xs = [.ref p] ∧ (SqL X.K H p ys ∨ SqT X.K H p ys) ∧ Q (.int ys.length) H) := by
  intro pins s σ H xs us Q I r h
  obtain ⟨p, ys, rfl, hq, q⟩ := h
  obtain ⟨u, rfl, rx⟩ := vals1 r
  cases rx
  have hn := line63
  rcases hq with hq | hq
  · obtain ⟨its, r', pl, hz⟩ := I.list hq
    have hlen := r'.length
    exact Calls.call_len_list pl.isList (by simp only [List.size_toArray] <;> omega) ⟨.int ys.length, H, I.tok _, ⟨s.toks + 1, by rw [List.size_toArray, hlen]⟩, q⟩
  · obtain ⟨its, r', pl, hz⟩ := I.tuple hq
    have hlen := r'.length
    exact len_tuple pl (by simp only [List.size_toArray] <;> omega) ⟨.int ys.length, H, I.tok _, ⟨s.toks + 1, by rw [List.size_toArray, hlen]⟩, q⟩
theorem call_list_of : CallR X (.type "list") (fun xs H Q => ∃ p ys, xs = [.ref p] ∧ (SqL X.K H p ys ∨ SqT X.K H p ys) ∧ ∀ l, H l = none → Q (.ref l) (upd H l (.lst ys))) := by
  intro pins s σ H xs us Q I r h
  obtain ⟨p, ys, rfl, hq, q⟩ := h
  obtain ⟨u, rfl, rx⟩ := vals1 r
  cases rx
  have fin : ∀ (its : List Value), Vals ys its → ys.length ≤ sizeLine → ∀ (h' : Heap) (c' : Nat), (∀ b o', s.heap.get? b = some o' → h'.get? b = some o') →
      h'.get? s.heap.objs.size = some { cls := .type "list", dict := none, data := .seq its.toArray c', slots := #[] } → EP X pins σ Q (.ref s.heap.objs.size) { s with heap := h' } := fun its r' hz h' c' kp e =>
    ⟨.ref s.heap.objs.size, _, I.laid (t' := s.toks) kp (Nat.le_refl _) (show ObjOk X.prog X.w _ h' _ (.lst ys) from ⟨hz, its, c', r', e⟩), rfl, q _ (I.hok.fresh (Nat.le_refl _))⟩
  rcases hq with hq | hq
  · obtain ⟨its, r', pl, hz⟩ := I.list hq
    have hlen := r'.length
    obtain ⟨o, ho, hc, n, hd⟩ := pl.isList
    exact call_list_seq p (.inl rfl) ho hc hd (fun h' c' kp e => fin its r' hz h' c' kp e) (by simp only [List.size_toArray] <;> omega)
  · obtain ⟨its, r', pl, hz⟩ := I.tuple hq
    have hlen := r'.length
    obtain ⟨o, ho, hc, n, hd⟩ := pl
    exact call_list_seq p (.inr rfl) ho hc hd (fun h' c' kp e => fin its r' hz h' c' kp e) (by simp only [List.size_toArray] <;> omega)
noncomputable def tyV (K : PySem.W.Frag) (T : String) (x : V) (H : Hp) : Prop := match x with
  | .str _ => T = "str"
  | .int _ => T = "int"
  | .ref p => (T = "list" ∧ ∃ xs, SqL K H p xs) ∨ (T = "tuple" ∧ ∃ o, K.lookup p = some o ∧ o.cls = .type "tuple" ∧ o.dict = none) ∨
      (T = "dict" ∧ ((∃ kvs, H p = some (.dK kvs)) ∨ ∃ kvs, H p = some (.dT kvs))) ∨ (T = "set" ∧ ∃ S n, H p = some (.set S n))
  | _ => False
theorem tyV_is {pins : List (Addr × Obj)} {σ : St} {H : Hp} {s : Shared} {T : String} {x : V} {v : Value} (I : Inv X pins σ H s) (r : RelV x v) (ty : tyV X.K T x H) :
    s.TypeIs v T ∧ ∀ a, v = .ref a → ∃ ob, s.heap.get? a = some ob ∧ ob.dict = none := by
  cases x with
  | str z =>
    obtain ⟨t, rfl⟩ := r
    cases (show T = "str" from ty)
    exact ⟨typeIs_str s z t, fun _ e => nomatch e⟩
  | int i =>
    obtain ⟨t, rfl⟩ := r
    cases (show T = "int" from ty)
    exact ⟨typeIs_int s i t, fun _ e => nomatch e⟩
  | ref p =>
    cases r
    rcases ty with ⟨rfl, xs, hq⟩ | ⟨rfl, o, hk, hc, hd⟩ | ⟨rfl, hk⟩ | ⟨rfl, S, n, hk⟩
    · obtain ⟨its, _, pl, _⟩ := I.list hq
      refine ⟨pl.isList.typeIs, fun a e => ?_⟩
      cases e
      obtain ⟨o, n, e, c, hd, _⟩ := pl
      exact ⟨o, e, hd⟩
    · refine ⟨⟨o, I.kIn p o hk, hc⟩, fun a e => ?_⟩
      cases e
      exact ⟨o, I.kIn _ o hk, hd⟩
    · have z : ∃ o, s.heap.get? p = some o ∧ o.ExactDict := by
        rcases hk with ⟨kvs, hk⟩ | ⟨kvs, hk⟩
        · obtain ⟨_, _, _, _, o, _, _, e, ex, _⟩ := I.hok p _ hk
          exact ⟨o, e, ex⟩
        · obtain ⟨_, _, _, _, o, _, _, e, ex, _⟩ := I.hok p _ hk
          exact ⟨o, e, ex⟩
      obtain ⟨o, e, ex⟩ := z
      refine ⟨⟨o, e, ex.1⟩, fun a e2 => ?_⟩
      cases e2
      exact ⟨o, e, ex.2.1⟩
    · obtain ⟨o, _, _, _, e, ex, _⟩ := I.hok p _ hk
      refine ⟨⟨o, e, ex.1⟩, fun a e2 => ?_⟩
      cases e2
      exact ⟨o, e, ex.2.1⟩
  | _ => exact False.elim ty
noncomputable def tBM0 (K : PySem.W.Frag) (T : String) (r : V → List V → Hp → VK → Prop) (to : TE) : TE := fun σ H Q => to σ H fun x H1 => tyV K T x H1 ∧ r x [] H1 Q
noncomputable def tBM (K : PySem.W.Frag) (T : String) (r : V → List V → Hp → VK → Prop) (to : TE) (t : TA) : TE := fun σ H Q => to σ H fun x H1 => tyV K T x H1 ∧ t σ H1 fun xs H2 => r x xs H2 Q
variable {o e : Expr} {es : List Expr} {to : TE} {t : TA} {name : Str} {apos cpos : Pos} {T id : String} {r : V → List V → Hp → VK → Prop}
theorem pe_bm0 (pa : PlainAttrs T) (slot : Slot T name id) (hty : typeOf (.builtin id) = pure (.type "method_descriptor")) (hm : MtR X id r) (ho : PE X o to)
    (hbase : attributeBase o name X.env (eval o X.env) = eval o X.env := by rfl) (hline : (apos.endLine == cpos.line) = true := by rfl) : PE X (.Call (.Attribute o name apos) [] [] cpos) (tBM0 X.K T r to) := by
  intro pins s σ H Q I h
  refine wpAny_Call_method0_late hbase hline (thn (ho pins s σ H _ I h) fun v s1 ⟨x, H1, I1, r1, ty, q1⟩ => ?_)
  obtain ⟨h1, h2⟩ := tyV_is I1 r1 ty
  exact ⟨T, id, pa, slot, hty, h1, h2, Calls.callWith_builtin rfl (PySem.evalArgs_none (hm pins s1 σ H1 x [] v [] Q I1 r1 .nil q1))⟩
theorem pe_bm (pa : PlainAttrs T) (slot : Slot T name id) (hty : typeOf (.builtin id) = pure (.type "method_descriptor")) (hm : MtR X id r) (ho : PE X o to) (ha : PA X (e :: es) t)
    (hbase : attributeBase o name X.env (eval o X.env) = eval o X.env := by rfl)
    (hfew : ((backTo cpos (starEach (e :: es) X.env)).all (fun x => !x.1) && (backToKw cpos (keywordEach [] X.env)).all (fun x => x.1.isSome)
      && decide ((e :: es).length + ([] : List Keyword).length + (if ([] : List Keyword).isEmpty then 0 else 1) < 30)) = true := by rfl)
    (hline : (apos.endLine == cpos.line) = true := by rfl) (hs : starEach (e :: es) X.env = (false, eval e X.env) :: starEach es X.env := by rfl) (hplain : (backTo cpos (starEach es X.env)).any (·.1) = false := by rfl) :
    PE X (.Call (.Attribute o name apos) (e :: es) [] cpos) (tBM X.K T r to t) := by
  intro pins s σ H Q I h
  refine wpAny_Call_method_late hbase hfew hline rfl (thn (ho pins s σ H _ I h) fun v s1 ⟨x, H1, I1, r1, ty, q1⟩ => ?_)
  obtain ⟨h1, h2⟩ := tyV_is I1 r1 ty
  refine ⟨T, id, pa, slot, hty, h1, h2, ?_⟩
  have hA := ha cpos pins s1 σ H1 _ I1 q1
  rw [hs] at hA ⊢
  refine Calls.callWith_builtin (by show (false || (backTo cpos (starEach es X.env)).any (·.1)) = false; rw [hplain] <;> rfl) (Calls.evalArgs_plain ?_)
  exact thn hA fun us s2 ⟨vs, H2, I2, r2, q2⟩ => hm pins s2 σ H2 x vs v us Q I2 r1 r2 q2
end
end L2
namespace L2
open PySem PySem.Spec PyProof.Rows
noncomputable def MtM (X : Cx) (id : String) (r : V → List V → Hp → VK → Prop) : Prop :=
  ∀ (pins : List (Addr × Obj)) (s : Shared) (σ : St) (H : Hp) (x : V) (xs : List V) (v : Value) (us : List Value) (Q : VK), Inv X pins σ H s → RelV x v → Vals xs us → r x xs H Q →
    wpAny (model X.prog X.w) X.A (call (.builtin id) (v :: us)) (EP X pins σ Q) X.xe s
theorem Vals.one : ∀ {x : V} {us : List Value}, Vals [x] us → ∃ u, us = [u] ∧ RelV x u
  | _, _, .cons r .nil => ⟨_, rfl, r⟩
theorem Vals.two : ∀ {x y : V} {us : List Value}, Vals [x, y] us → ∃ u v, us = [u, v] ∧ RelV x u ∧ RelV y v
  | _, _, _, .cons r (.cons q .nil) => ⟨_, _, rfl, r, q⟩
theorem Vals.zero : ∀ {us : List Value}, Vals [] us → us = []
  | _, .nil => rfl
theorem Vals.reverse {xs : List V} {us : List Value} (h : Vals xs us) : Vals xs.reverse us.reverse := by
  induction h with
  | nil => exact .nil
  | cons r t ih => rw [List.reverse_cons, List.reverse_cons]; exact Vals.append ih (.cons r .nil)
section
variable {X : Cx} {pins : List (Addr × Obj)} {σ : St} {H : Hp} {s : Shared} {l b : Addr} {xs ys zs : List V}
theorem Inv.lset {its its' : List Value} {n : Nat} {f : Array Value → Array Value} {t' : Nat} (I : Inv X pins σ H s) (hH : H l = some (.lst xs))
    (e : s.heap.get? l = some { cls := .type "list", data := .seq its.toArray n }) (hf : f its.toArray = its'.toArray) (hv : Vals ys its') (hz : ys.length ≤ sizeLine) :
    Inv X pins σ (upd H l (.lst ys)) { s with heap := s.heap.update l (Obj.mapSeq f), toks := t' } := by
  have q := PySem.IsL.update e f
  rw [hf] at q
  refine I.write (x := l) (e := l) (by rw [hH]; exact trivial) (.inl rfl) (fun b' u hb hu => (Heap.get?_update_other s.heap (Obj.mapSeq f) (Ne.symm hb)).trans hu) ⟨_, q⟩ ?_
  exact ⟨hz, its', _, hv, q⟩
theorem Inv.lnew {its : List Value} {t' : Nat} (I : Inv X pins σ H s) (hv : Vals ys its) (hz : ys.length ≤ sizeLine) :
    Inv X pins σ (upd H s.heap.objs.size (.lst ys)) { s with heap := s.heap.push { cls := .type "list", data := .seq its.toArray }, toks := t' } :=
  I.laid (fun _ _ q => Heap.get?_push_of_some _ q) (Nat.le_refl _) ⟨hz, its, 0, hv, Heap.get?_push_size _ rfl⟩
theorem Inv.fresh (I : Inv X pins σ H s) : H s.heap.objs.size = none := I.hok.fresh (Nat.le_refl _)
theorem Inv.lstM (I : Inv X pins σ H s) (hH : H l = some (.lst xs)) : xs.length ≤ sizeLine ∧ ∃ (its : List Value) (n : Nat), Vals xs its ∧ xs.length = its.length ∧ s.heap.get? l = some { cls := .type "list", data := .seq its.toArray n } := by
  obtain ⟨z, its, n, r, e⟩ := I.hok l _ hH
  exact ⟨z, its, n, r, r.length, e⟩
end
section
variable {X : Cx}
noncomputable def rAppend : V → List V → Hp → VK → Prop := fun x vs H Q => ∃ l xs y, x = .ref l ∧ vs = [y] ∧ H l = some (.lst xs) ∧ xs.length < sizeLine ∧ Q .non (upd H l (.lst (xs ++ [y])))
theorem mt_append : MtM X "list.append" rAppend := by
  intro pins s σ H x vs v us Q I rx rv h
  obtain ⟨l, xs, y, rfl, rfl, hH, hz, q⟩ := h
  cases rx
  obtain ⟨u, rfl, ru⟩ := rv.one
  obtain ⟨z, its, n, r, hl, e⟩ := I.lstM hH
  refine call_meets F.slot_list_append ⟨_, e, rfl⟩ F.entry_list_append (F.args_list_append_2 _ _) (PySem.list_append l its.toArray n u (by rw [List.size_toArray]; omega)) ⟨e, ?_⟩
  refine ⟨.non, _, I.lset (its' := its ++ [u]) hH e (by simp) (r.append (.cons ru .nil)) ?_, rfl, q⟩
  rw [List.length_append, List.length_singleton]
  omega
noncomputable def rReverse : V → List V → Hp → VK → Prop := fun x vs H Q => ∃ l xs, x = .ref l ∧ vs = [] ∧ H l = some (.lst xs) ∧ Q .non (upd H l (.lst xs.reverse))
theorem mt_reverse : MtM X "list.reverse" rReverse := by
  intro pins s σ H x vs v us Q I rx rv h
  obtain ⟨l, xs, rfl, rfl, hH, q⟩ := h
  cases rx
  have hus := rv.zero
  subst hus
  obtain ⟨z, its, n, r, hl, e⟩ := I.lstM hH
  refine call_meets F.slot_list_reverse ⟨_, e, rfl⟩ F.entry_list_reverse (F.args_list_reverse_1 _) (AutoSeq1.list_reverse_list_0 l its.toArray n (by rw [List.size_toArray]; omega)) ⟨e, ?_⟩
  refine ⟨.non, _, I.lset (its' := its.reverse) hH e (by simp) r.reverse ?_, rfl, q⟩
  rw [List.length_reverse]
  omega
noncomputable def rCat : R2 := fun x y H Q => ∃ l b xs zs, x = .ref l ∧ y = .ref b ∧ H l = some (.lst xs) ∧ H b = some (.lst zs) ∧ xs.length + zs.length ≤ sizeLine ∧ ∀ p, H p = none → Q (.ref p) (upd H p (.lst (xs ++ zs)))
theorem op_cat : OpR X (binaryOp .Add) rCat := by
  intro pins s σ H x y v u Q I rx ry h
  obtain ⟨l, b, xs, zs, rfl, rfl, hH, hB, hz, q⟩ := h
  cases rx
  cases ry
  obtain ⟨z, its, n, r, hl, e⟩ := I.lstM hH
  obtain ⟨z2, its2, n2, r2, hl2, e2⟩ := I.lstM hB
  refine PySem.P.add_list e e2 ?_ (by rw [List.size_toArray, List.size_toArray]; omega)
  have ea : its.toArray ++ its2.toArray = (its ++ its2).toArray := by simp
  rw [ea]
  exact ⟨.ref _, _, I.lnew (t' := s.toks) (r.append r2) (by rw [List.length_append]; omega), rfl, q _ I.fresh⟩
end
section
variable {prog : Program} {w : World} {A : Around} {E : Value → Shared → Prop} {s : Shared}
end
section
variable {X : Cx}
end
end L2
namespace Att
open PySem PySem.W PySem.Calls PyProof.Rows
theorem ints_of_wellAll {P : Params} {h : Heap} : ∀ (ns : List Int) (vs : List Value), WellAll P h vs (ns.map WData.int) → IntsAre vs ns := by
  intro ns
  induction ns with
  | nil =>
    intro vs w
    rw [List.map_nil] at w
    cases w
    exact .nil
  | cons n ns ih =>
    intro vs w
    rw [List.map_cons] at w
    cases w with
    | cons a b =>
      cases a
      exact .cons _ _ (ih _ b)
theorem script_of {l : OpenLaw} {n : Nat} (hn : l.most = some n) {P : Params} {h : Heap} {args : List WData} {vals : List Value}
    (hpre : l.row.toRowW.claim.pre args = true) (hwl : WellAll P h vals args) :
    ∃ a vs ns, vals = [Value.ref a] ∧ args = [WData.list (ns.map WData.int)] ∧ h.get? a = some { cls := .type "list", data := .seq vs.toArray } ∧ IntsAre vs ns ∧ ns.length ≤ n := by
  have hsh : WShape.hasAll [] args [.list .int] = true := (pre_splitW hpre).1
  have hc : l.pre.holds [] { args := args } = true := (pre_splitW hpre).2
  obtain ⟨d, r, rfl, h1, h2⟩ := hasAllW_cons hsh
  obtain rfl := hasAllW_nil h2
  obtain ⟨xs, rfl, h3⟩ := hasW_list h1
  obtain ⟨ns, rfl⟩ := items_int h3
  have hlen : ns.length ≤ n := by
    unfold OpenLaw.pre at hc
    have h4 : (WTm.not (.lt (.lit (.int (n : Int))) (.len (.arg 0)))).holds [] { args := [.list (ns.map .int)] } = true := by
      have h4 := (holds_andW hc).1
      rw [hn] at h4
      exact h4
    have h5 := condW_of h4 (w_not (w_lt w_lit (w_len_list (w_arg rfl))))
    rw [List.length_map] at h5
    refine Nat.le_of_not_lt fun q => ?_
    have q' : (n : Int) < ((ns.length : Nat) : Int) := by omega
    first
      | (rw [decide_eq_true q'] at h5; exact absurd h5 (by decide))
      | (simp at h5; omega)
  cases hwl with
  | cons w1 w2 =>
    cases w2
    cases w1 with
    | list ho hall => exact ⟨_, _, ns, rfl, rfl, ho, ints_of_wellAll ns _ hall, hlen⟩
theorem post_true (l : OpenLaw) (args : List WData) : l.row.toRowW.claim.post args (.bool true) args = true :=
  postW_of (r := l.row.toRowW) (X := (true == true))
    (show WShape.has [] (.bool true) .bool = true by first | rfl | decide | simp [WShape.has, WShape.arms, WShape.armsAll])
    (show (WTm.eq .res (.lit (.bool true))).value [] { args := args, res := some (.bool true), after := args } = some (.bool (true == true)) from w_eq_bool (w_res rfl) w_lit) rfl
section
variable {prog : Program} {w : World} {A : Around} {E : Value → Shared → Prop} {s : Shared} {K : Frag}
end
end Att
namespace L2
open PySem PySem.Spec PyProof.Rows
theorem vals_ints : ∀ {vs : List Value} {ns : List Int}, IntsAre vs ns → Vals (ns.map V.int) vs
  | _, _, .nil => .nil
  | _, _, .cons n t h => .cons ⟨t, rfl⟩ (vals_ints h)
noncomputable def Only (H : Hp) : Prop := ∀ b, H b = none ∨ ∃ o xs, H b = some (.frz o (.lst xs))
theorem law_call {P : Program} {w : World} {K : PySem.W.Frag} {mg mb : Str → Option Value} {CX : CXT} {k : Nat} {fa a : Addr} {fd : FuncData} {x : Str} {sp : Sp} {s₁ : Shared} {vs : List Value} {ns : List Int}
    (KX : K.In s₁.heap) (hns : s₁.heap.Ns mainGlobals mg) (hb : s₁.heap.Ns builtinsNs mb) (hbb : ∀ x : Str, x ≠ "__name__" → mb x = bootBuiltins x) (hlim : s₁.heap.NoLimit) (hg : s₁.gens = #[])
    (ha : s₁.heap.get? a = some { cls := .type "list", data := .seq vs.toArray }) (hi : IntsAre vs ns) (hl : ns.length ≤ sizeLine) (hr : Room k callerA)
    (F : ∀ base : Heap, K.In base → base.Ns mainGlobals mg → FnOk P w K mg base CX k fa fd [x] sp) (hbind : ∀ (s : Shared) (u : Value), BindsTo s fd ⟨[u], []⟩ [(x, u)])
    (hsp : ∀ H : Hp, Only H → SqL K H a (ns.map V.int) → sp [.ref a] H (fun v _ => v = .bl true) fun _ _ _ => False)
    (hCX : ∀ H e s', CX [] H s₁ (fun _ _ _ => False) e s' → False) :
    codeAny (model P w) callerA (.call (.ref fa) ⟨[.ref a], []⟩) (fun r s' => r = .ok (.ret (.bool true)) ∧ OldK s₁.heap s'.heap ∧ s'.os = s₁.os ∧ AllBare s'.gens) s₁ := by
  have rv := vals_ints hi
  have lenV := hi.length
  have core : ∀ H : Hp, Only H → SqL K H a (ns.map V.int) → HOk P w H s₁.heap → (∀ b, H b ≠ none → b = a) → (H a ≠ none → K.lookup a = none) →
      codeAny (model P w) callerA (.call (.ref fa) ⟨[.ref a], []⟩) (fun r s' => r = .ok (.ret (.bool true)) ∧ OldK s₁.heap s'.heap ∧ s'.os = s₁.os ∧ AllBare s'.gens) s₁ := by
    intro H hO hS hok hA hK
    have base_of : ∀ {b : Addr} {o : Obj}, s₁.heap.get? b = some o → H b = none → (hidT s₁.heap H).get? b = some o := fun e n => hidT_get e n
    have noA : ∀ {b : Addr} {o : Obj} {es : Array DictEntry} {ep : Nat}, s₁.heap.get? b = some o → o.data = .dict es ep → H b = none := fun {b o es ep} e d => by
      cases q : H b with
      | none => rfl
      | some u =>
        have e' : b = a := hA b (by rw [q]; simp)
        subst e'
        rw [ha] at e; cases e
        have d' : Data.seq vs.toArray _ = Data.dict es ep := d
        cases d'
    have nsK : ∀ {b : Addr} {m : Str → Option Value}, s₁.heap.Ns b m → (hidT s₁.heap H).Ns b m := fun {b m} ⟨o, es, ep, e, d, r⟩ => ⟨o, es, ep, base_of e (noA e d), d, r⟩
    have hKb : K.In (hidT s₁.heap H) := fun b o e => base_of (KX b o e) (by
      cases q : H b with
      | none => rfl
      | some u =>
        have e' : b = a := hA b (by rw [q]; simp)
        subst e'
        rw [hK (by rw [q]; simp)] at e; cases e)
    have hM : Mod K mg (hidT s₁.heap H) := ⟨hKb, nsK hns, ⟨mb, nsK hb, hbb⟩, let ⟨mc, h1, h2⟩ := hlim; ⟨mc, nsK h1, h2⟩⟩
    have e0 : Env0 P w K mg (hidT s₁.heap H) callerA [] s₁ H := ⟨rfl, hM, fun b o e => of_hidT e, Nat.le_of_eq (hidT_size _ _), trivial, fun b hb => absurd (show b ∈ ([] : List Addr) from hb) (by simp), hok, .of_eq hg⟩
    refine codeAny_mono ((F _ hKb (nsK hns)).run callerA [] s₁ H ⟨[.ref a], []⟩ [.ref a] [.ref a] _ _ hr e0 (hbind s₁ (.ref a)) (.cons rfl .nil) (hsp H hO hS)) fun r s' h => ?_
    cases r with
    | error e => exact (hCX H e s' h).elim
    | ok fl =>
      cases fl with
      | next => exact False.elim h
      | brk => exact False.elim h
      | cont => exact False.elim h
      | ret u =>
        obtain ⟨v, H', os, bare, un, hok', r', q⟩ := h
        have q' : v = .bl true := q
        subst q'
        obtain rfl : u = Value.bool true := r'
        refine ⟨rfl, OldK.of_keep fun b o e => ?_, os, bare⟩
        cases q : H b with
        | none => exact un.keep b o e q (by intro z; exact absurd (show b ∈ ([] : List Addr) from z) (by simp)) (by simp)
        | some u =>
          rcases hO b with z | ⟨ob, xs, z⟩
          · rw [q] at z; cases z
          · have z2 := un.frzs b ob _ z
            obtain ⟨e1, _⟩ := hok b _ z
            obtain ⟨e2, _⟩ := hok' b _ z2
            rw [e] at e1; cases e1
            exact e2
  cases hk : K.lookup a with
  | some o =>
    have e := KX a o hk
    rw [ha] at e
    cases e
    refine core (fun _ => none) (fun _ => .inl rfl) (.inr ⟨_, vs.toArray, _, hk, rfl, rfl, rfl, by rw [List.size_toArray, lenV]; exact hl, by simpa using rv⟩) (fun b u z => by have z' : (none : Option HO) = some u := z; cases z') (fun b z => absurd rfl z) fun z => absurd rfl z
  | none =>
    refine core (fun b => if b = a then some (.frz { cls := .type "list", data := .seq vs.toArray } (.lst (ns.map V.int))) else none) (fun b => ?_) (.inl (.inr ⟨{ cls := .type "list", data := .seq vs.toArray }, if_pos rfl⟩)) (fun b u z => ?_) (fun b z => ?_) fun _ => hk
    · by_cases hb : b = a
      · exact .inr ⟨_, _, if_pos hb⟩
      · exact .inl (if_neg hb)
    · by_cases hb : b = a
      · have z' := (if_pos hb).symm.trans z
        cases z'
        subst hb
        exact ⟨ha, by rw [List.length_map]; exact hl, vs, _, rv, ha⟩
      · have z' := (if_neg hb).symm.trans z
        cases z'
    · by_cases hb : b = a
      · exact hb
      · exact absurd (if_neg hb) z
end L2
namespace L2
open PySem PySem.Spec PyProof.Rows
end L2
namespace L2
open PySem PySem.Spec PyProof.Rows
noncomputable def defArgs (s : Stmt) : Arguments := match s with
  | .FunctionDef _ a _ _ _ _ _ _ _ _ => a
  | _ => { posonlyargs := [], args := [], vararg := none, kwonlyargs := [], kw_defaults := [], kwarg := none, defaults := [] }
noncomputable def defBody (s : Stmt) : List Stmt := match s with
  | .FunctionDef _ _ b _ _ _ _ _ _ _ => b
  | _ => []
noncomputable def defScope (s : Stmt) : Scope := match s with
  | .FunctionDef _ _ _ _ _ _ sc _ _ _ => sc
  | _ => { kind := .function, names := [], isGenerator := false, isCoroutine := false }
noncomputable abbrev CX0 : CXT := fun _ _ _ _ _ _ => False
noncomputable abbrev E0 : XK := fun _ _ _ => False
theorem pass0 {X : Cx} : Passes CX0 X E0 := fun _ _ _ _ _ _ _ h => h.elim
structure Fun (K : PySem.W.Frag) (x qual : Str) (st : Stmt) (f : Addr) (fd : FuncData) : Prop where
  ex : ∃ (oc : Value) (od : Option Addr) (kV doc pm : Value) (an : Option Addr) (cdv ct : Value) (osl : Array (Option Value)),
    fd = PySem.W.fnOf x qual (defArgs st) (defBody st) (defScope st) .none kV doc pm an cdv ct ∧ K.lookup f = some ⟨oc, od, .func fd, osl⟩ ∧ PySem.W.codeIn K cdv qual = true
  kp : PySem.W.keepIn K (.ref f) = true
section
variable {P : Program} {w : World} {K : PySem.W.Frag} {mg : Str → Option Value} {base : Heap}
theorem Fun.ok {x qual : Str} {st : Stmt} {f : Addr} {fd : FuncData} {N ps : List Str} {k : Nat} {sp : Sp} (F : Fun K x qual st f fd) (S : FnScope N ps (defScope st)) (len : ∀ vs H Q E, sp vs H Q E → vs.length = ps.length)
    (hbody : ∀ (cdv : Value) (A : Around) (outer : List Env) (s : Shared) (H : Hp) (vs : List V) (Q : VK) (E : XK), Room k (A.deeper (envOfC qual (defScope st) s.heap.objs.size f cdv)) → sp vs H Q E →
      ∃ t, PSs (cxOf CX0 P w K mg base N qual (defScope st) f cdv A outer s H E).nox (defBody st) t ∧ t { nx := fun _ H' => Q .non H', rt := Q } (start N vs) H) : FnOk P w K mg base CX0 (k + 1) f fd ps sp := by
  obtain ⟨oc, od, kV, doc, pm, an, cdv, ct, osl, rfl, lk, hcd⟩ := F.ex
  refine fn_of lk hcd S len fun A outer s H vs Q E hr hsp => ?_
  obtain ⟨t, h, q⟩ := hbody cdv A outer s H vs Q E hr hsp
  exact ⟨t, h.nox, q⟩
theorem Fun.binds {x qual : Str} {st : Stmt} {f : Addr} {fd : FuncData} {ps : List Str} (F : Fun K x qual st f fd)
    (h : ∀ (kV doc pm : Value) (an : Option Addr) (cdv ct : Value) (us : List Value), us.length = ps.length → bindArgs (PySem.W.fnOf x qual (defArgs st) (defBody st) (defScope st) .none kV doc pm an cdv ct) ⟨us, []⟩ = pure (ps.zip us)) : Binds K fd ps [] := by
  obtain ⟨oc, od, kV, doc, pm, an, cdv, ct, osl, rfl, lk, hcd⟩ := F.ex
  exact .all (h kV doc pm an cdv ct)
theorem fun_mk {x qual : Str} {st : Stmt} {f : Addr} {oc : Value} {od an : Option Addr} {osl : Array (Option Value)} {kV doc pm cdv ct : Value} (l : K.lookup f = some ⟨oc, od, .func (PySem.W.fnOf x qual (defArgs st) (defBody st) (defScope st) .none kV doc pm an cdv ct), osl⟩)
    (c : PySem.W.codeIn K cdv qual = true) (k : PySem.W.keepIn K (.ref f) = true) : Fun K x qual st f (PySem.W.fnOf x qual (defArgs st) (defBody st) (defScope st) .none kV doc pm an cdv ct) := ⟨⟨oc, od, kV, doc, pm, an, cdv, ct, osl, rfl, l, c⟩, k⟩
end
theorem small1000 {n : Nat} (h : n ≤ 1000) : n < sizeLine := Nat.lt_of_le_of_lt h (by decide)
section
variable {X : Cx}
theorem pv (i : Nat) {x : Str} {pos : Pos} (hN : X.N[i]? = some x := by rfl) (hv : Vis X.env.scope x := by first | exact Or.inl rfl | exact Or.inr (Or.inl rfl) | exact Or.inr (Or.inr rfl)) (hd : (x == ("__debug__" : Str)) = false := by decide)
    (hcd : (x == ("__classdict__" : Str)) = false := by decide) : PE X (.Name x pos) (tVar i) := pe_var hN hv hd hcd
end
theorem iteF {A B : Prop} (h : B) : if false = true then A else B := by
  rw [if_neg Bool.false_ne_true]
  exact h
theorem iteT {A B : Prop} (h : A) : if true = true then A else B := by
  rw [if_pos rfl]
  exact h
noncomputable def Same (H H' : Hp) : Prop := ∀ b o, H b = some o → H' b = some o
theorem Same.refl (H : Hp) : Same H H := fun _ _ h => h
theorem Same.trans {H H1 H2 : Hp} (a : Same H H1) (b : Same H1 H2) : Same H H2 := fun c o h => b c o (a c o h)
theorem Same.free {H H' : Hp} (e : Same H H') {l : Addr} (h : H' l = Option.none) : H l = Option.none := by
  cases q : H l with
  | none => rfl
  | some o =>
    rw [e l o q] at h
    cases h
theorem Same.seq {K : PySem.W.Frag} {H H' : Hp} {a : Addr} {xs : List V} (e : Same H H') (h : SqL K H a xs) : SqL K H' a xs := by
  rcases h with (h | ⟨o, h⟩) | h
  · exact .inl (.inl (e _ _ h))
  · exact .inl (.inr ⟨o, e _ _ h⟩)
  · exact .inr h
end L2
set_option Elab.async false
set_option linter.all false
set_option maxRecDepth 100000
namespace L2
open PySem PySem.Spec PyProof.Rows
section
variable {κ : Type} [DecidableEq κ]
noncomputable def valV (kvs : List (κ × V)) (k : κ) : Option V := (kvs.find? fun kv => decide (kv.1 = k)).map (·.2)
noncomputable def putK (kvs : List (κ × V)) (k : κ) (v : V) : List (κ × V) :=
  if (kvs.any fun kv => decide (kv.1 = k)) = true then kvs.map (fun kv => if kv.1 = k then (kv.1, v) else kv) else kvs ++ [(k, v)]
noncomputable def dropK (kvs : List (κ × V)) (k : κ) : List (κ × V) := kvs.filter fun kv => decide (kv.1 ≠ k)
theorem RelO.getD {o : Option V} {u : Option Value} {d : V} {d' : Value} (r : RelO o u) (rd : RelV d d') : RelV (o.getD d) (u.getD d') := by
  cases o with
  | none => cases u with
    | none => exact rd
    | some _ => exact (show False from r).elim
  | some _ => cases u with
    | none => exact (show False from r).elim
    | some _ => exact r
theorem KV.any {kvs : List (κ × V)} {vs : List (κ × Value)} (r : KV kvs vs) (k : κ) : (kvs.any fun kv => decide (kv.1 = k)) = vs.any fun kv => decide (kv.1 = k) := by
  unfold KV at r
  induction r with
  | nil => rfl
  | cons h t ih => rw [List.any_cons, List.any_cons, ih, h.1]
theorem KV.drop {kvs : List (κ × V)} {vs : List (κ × Value)} (r : KV kvs vs) (k : κ) : KV (dropK kvs k) (without vs k) := by
  unfold KV at r ⊢
  unfold dropK without
  induction r with
  | nil => exact .nil
  | @cons p q ps qs h t ih =>
    obtain ⟨h1, h2⟩ := h
    rw [List.filter_cons, List.filter_cons]
    by_cases e : p.1 = k
    · have a : ¬ decide (p.1 ≠ k) = true := by simp [e]
      have b : ¬ decide (q.1 ≠ k) = true := by simp [h1.symm.trans e]
      rw [if_neg a, if_neg b]; exact ih
    · have e' : ¬ q.1 = k := fun z => e (h1.trans z)
      have a : decide (p.1 ≠ k) = true := by simp [e]
      have b : decide (q.1 ≠ k) = true := by simp [e']
      rw [if_pos a, if_pos b]; exact .cons ⟨h1, h2⟩ ih
theorem KV.keys {kvs : List (κ × V)} {vs : List (κ × Value)} (r : KV kvs vs) : kvs.map (·.1) = vs.map (·.1) := by
  unfold KV at r
  induction r with
  | nil => rfl
  | cons h t ih => rw [List.map_cons, List.map_cons, ih, h.1]
theorem KV.length {kvs : List (κ × V)} {vs : List (κ × Value)} (r : KV kvs vs) : kvs.length = vs.length := Paired.length r
end
noncomputable abbrev KT (H : Hp) : List (List Key × V) → List (List Key × Addr × Value) → Prop := Paired fun p q => p.1 = q.1 ∧ H q.2.1 = some (.tup (p.1.map kV)) ∧ RelV p.2 q.2.2
theorem KT.keeps {H H' : Hp} {kvs : List (List Key × V)} {xs : List (List Key × Addr × Value)} (r : KT H kvs xs) (ht : ∀ b ys, H b = some (.tup ys) → H' b = some (.tup ys)) : KT H' kvs xs :=
  Paired.mapP r fun _ _ z => ⟨z.1, ht _ _ z.2.1, z.2.2⟩
section
variable {P : Program} {w : World} {H : Hp} {h : Heap} {a : Addr}
end
noncomputable def DGet (H : Hp) (a : Addr) (y : V) (r : Option V) : Prop :=
  (∃ kvs k, Rd H a (.dK kvs) ∧ y = kV k ∧ r = valV kvs k) ∨ ∃ kvs k b, Rd H a (.dT kvs) ∧ y = .ref b ∧ H b = some (.tup (k.map kV)) ∧ r = valV kvs k
noncomputable def DPut (H : Hp) (a : Addr) (y v : V) (H' : Hp) : Prop :=
  (∃ kvs k, H a = some (.dK kvs) ∧ y = kV k ∧ kvs.length < sizeLine ∧ H' = upd H a (.dK (putK kvs k v))) ∨
  ∃ kvs k b, H a = some (.dT kvs) ∧ y = .ref b ∧ H b = some (.tup (k.map kV)) ∧ kvs.length < sizeLine ∧ H' = upd H a (.dT (putK kvs k v))
theorem DGet.k {H : Hp} {a : Addr} {kvs : List (Key × V)} {k : Key} (e : H a = some (.dK kvs)) : DGet H a (kV k) (valV kvs k) := .inl ⟨kvs, k, .inl e, rfl, rfl⟩
theorem DGet.t {H : Hp} {a b : Addr} {kvs : List (List Key × V)} {k : List Key} (e : H a = some (.dT kvs)) (eb : H b = some (.tup (k.map kV))) : DGet H a (.ref b) (valV kvs k) := .inr ⟨kvs, k, b, .inl e, rfl, eb, rfl⟩
theorem DPut.k {H : Hp} {a : Addr} {kvs : List (Key × V)} {k : Key} {v : V} (e : H a = some (.dK kvs)) (hl : kvs.length < sizeLine) : DPut H a (kV k) v (upd H a (.dK (putK kvs k v))) := .inl ⟨kvs, k, e, rfl, hl, rfl⟩
theorem DPut.t {H : Hp} {a b : Addr} {kvs : List (List Key × V)} {k : List Key} {v : V} (e : H a = some (.dT kvs)) (eb : H b = some (.tup (k.map kV))) (hl : kvs.length < sizeLine) :
    DPut H a (.ref b) v (upd H a (.dT (putK kvs k v))) := .inr ⟨kvs, k, b, e, rfl, eb, hl, rfl⟩
section
variable {X : Cx} {pins : List (Addr × Obj)} {σ : St} {H : Hp} {s : Shared} {a : Addr} {y v : V} {u r : Value} {o : Option V} {A : Around} {E : Value → Shared → Prop}
end
section
variable {X : Cx} {pins : List (Addr × Obj)} {σ : St} {H : Hp} {s : Shared} {a : Addr} {kvs : List (Key × V)} {k : Key} {u : Value} {A : Around} {E : Value → Shared → Prop}
end
section
variable {X : Cx} {o i e value : Expr} {pos pos' tpos : Pos} {td ty tv : TE}
end
section
variable {X : Cx} {pos : Pos}
end
section
variable {X : Cx} {pins : List (Addr × Obj)} {σ : St} {H : Hp} {s : Shared} {a : Addr} {y d : V} {u r : Value} {o : Option V} {A : Around} {E : Value → Shared → Prop}
end
section
variable {X : Cx} {o e f : Expr} {apos cpos : Pos} {td ty tx : TE}
end
section
variable {X : Cx} {pins : List (Addr × Obj)} {σ : St} {H : Hp} {s : Shared} {a : Addr} {kvs : List (Key × V)} {A : Around} {E : Value → Shared → Prop}
end
section
variable {X : Cx} {pins : List (Addr × Obj)} {σ : St} {H : Hp} {s : Shared} {a : Addr} {y : V} {u : Value} {A : Around} {E : Value → Shared → Prop}
end
end L2
set_option Elab.async false
set_option linter.all false
set_option maxRecDepth 100000
set_option maxHeartbeats 4000000
namespace L2
open PySem PySem.Spec PyProof.Rows
section
variable {X : Cx}
theorem lt_two {n : Nat} {k : Int} (h0 : 0 < k) (h : k < 2 ^ 400) : k.natAbs.log2 < 9000 := by
  have hne : k.natAbs ≠ 0 := by omega
  have : k.natAbs.log2 < 400 := (Nat.log2_lt hne).mpr (by omega)
  omega
noncomputable def CDivB (_ j : Int) : Prop := 0 < j ∧ j < 2 ^ 400
theorem op_fdivB : OpR X (binaryOp .FloorDiv) (rI CDivB fun i j => .int (i / j)) := opI fun i j _ _ _ _ _ hc q => by
  have h1 : (0 : Int) < j := hc.1
  exact floordiv_int (by omega) (by rw [Int.fdiv_eq_ediv_of_nonneg i (by omega)]; exact q) (.inl (PyProof.noPylong_of_log2 (lt_two (n := 0) hc.1 hc.2)))
noncomputable def CMulB (i j : Int) : Prop := IntMulOk i j
theorem op_mulB : OpR X (binaryOp .Mult) (rI CMulB fun i j => .int (i * j)) := opI fun _ _ _ _ _ _ _ hc q => mul_int q hc
theorem mul_l {i j : Int} (h1 : -(2 ^ 64) < i) (h2 : i < 2 ^ 64) : CMulB i j := IntMulOk.of_left (intBits_le_64 h1 h2)
theorem mul_r {i j : Int} (h1 : -(2 ^ 64) < j) (h2 : j < 2 ^ 64) : CMulB i j := IntMulOk.of_right (intBits_le_64 h1 h2)
noncomputable def TyS (K : PySem.W.Frag) (H : Hp) (x : V) (t : Value) : Prop := TyOf K H x t ∨ (∃ a xs, x = .ref a ∧ SqT K H a xs ∧ t = .type "tuple") ∨ (∃ a xs, x = .ref a ∧ SqL K H a xs ∧ t = .type "list")
theorem TyS.tup {K : PySem.W.Frag} {H : Hp} {a : Addr} {xs : List V} (h : SqT K H a xs) : TyS K H (.ref a) (.type "tuple") := .inr (.inl ⟨a, xs, rfl, h, rfl⟩)
theorem TyS.lst {K : PySem.W.Frag} {H : Hp} {a : Addr} {xs : List V} (h : SqL K H a xs) : TyS K H (.ref a) (.type "list") := .inr (.inr ⟨a, xs, rfl, h, rfl⟩)
theorem TyS.int {K : PySem.W.Frag} {H : Hp} {i : Int} : TyS K H (.int i) (.type "int") := .inl (.int i)
theorem TyS.bl {K : PySem.W.Frag} {H : Hp} {i : Bool} : TyS K H (.bl i) (.type "bool") := .inl (.bl i)
theorem TyS.str {K : PySem.W.Frag} {H : Hp} {i : Str} : TyS K H (.str i) (.type "str") := .inl (.str i)
theorem call_isinst : CallR X (.builtin "isinstance") (fun xs H Q => ∃ x c t b, xs = [x, .ty c] ∧ TyS X.K H x t ∧ PySem.W.kitOne X.K t (.type c) = some b ∧ Q (.bl b) H) := by
  intro pins s σ H xs us Q I r h
  obtain ⟨x, c, t, b, rfl, ty, e, q⟩ := h
  obtain ⟨u, v, rfl, rx, rc⟩ := Vals.two r
  cases (show v = Value.type c from rc)
  have fin : ∀ tk, EP X pins σ Q (.bool b) { s with toks := tk } := fun tk => ⟨.bl b, H, I.tok _, rfl, q⟩
  rcases ty with ty | ⟨a, xs, rfl, hT, rfl⟩ | ⟨a, xs, rfl, hL, rfl⟩
  · exact isinst_ok I rx ty e fin
  · cases (show u = Value.ref a from rx)
    obtain ⟨its, _, p, _⟩ := I.tuple hT
    obtain ⟨o, h1, h2, _⟩ := p
    exact PySem.W.kia_one PySem.W.kitx_tuple I.kIn ⟨o, h1, h2⟩ e (fun z => nomatch z) fin
  · cases (show u = Value.ref a from rx)
    obtain ⟨its, _, p, _⟩ := I.list hL
    obtain ⟨o, _, h1, h2, _⟩ := p
    exact PySem.W.kia_one PySem.W.kitx_list I.kIn ⟨o, h1, h2⟩ e (fun z => nomatch z) fin
theorem boot_min : bootBuiltins "min" = some (.builtin "min") := by decide +kernel
theorem boot_isinstance : bootBuiltins "isinstance" = some (.builtin "isinstance") := by decide +kernel
theorem boot_ty_int : bootBuiltins "int" = some (.type "int") := by decide +kernel
theorem boot_ty_bool : bootBuiltins "bool" = some (.type "bool") := by decide +kernel
theorem boot_ty_str : bootBuiltins "str" = some (.type "str") := by decide +kernel
theorem boot_ty_tuple : bootBuiltins "tuple" = some (.type "tuple") := by decide +kernel
theorem boot_ty_list : bootBuiltins "list" = some (.type "list") := by decide +kernel
theorem kit_int_int {K : PySem.W.Frag} : PySem.W.kitOne K (.type "int") (.type "int") = some true := rfl
theorem kit_int_bool {K : PySem.W.Frag} : PySem.W.kitOne K (.type "int") (.type "bool") = some false := by first | rfl | with_unfolding_all rfl
theorem kit_tup_tup {K : PySem.W.Frag} : PySem.W.kitOne K (.type "tuple") (.type "tuple") = some true := rfl
theorem kit_lst_lst {K : PySem.W.Frag} : PySem.W.kitOne K (.type "list") (.type "list") = some true := rfl
theorem kit_str_str {K : PySem.W.Frag} : PySem.W.kitOne K (.type "str") (.type "str") = some true := rfl
end
theorem Same.seqT {K : PySem.W.Frag} {H H' : Hp} {a : Addr} {xs : List V} (e : Same H H') (h : SqT K H a xs) : SqT K H' a xs := by
  rcases h with (h | ⟨o, h⟩) | h
  · exact .inl (.inl (e _ _ h))
  · exact .inl (.inr ⟨o, e _ _ h⟩)
  · exact .inr h
theorem same_new {H : Hp} {p : Addr} (h : H p = none) (o : HO) : Same H (upd H p o) := fun b u q => by rw [upd_ne (ne_of_none q h)]; exact q
theorem small' {n : Nat} (h : n ≤ 1000) : n ≤ sizeLine := Nat.le_of_lt (small1000 h)
section
variable {X : Cx} {es : List Expr} {t : TA} {pos : Pos}
noncomputable def tTupO (t : TA) : TE := fun σ H Q => t σ H fun xs H1 => xs.length ≤ sizeLine ∧ ∀ p H2, H1 p = none → Same H1 H2 → H2 p = some (.tup xs) → Q (.ref p) H2
noncomputable def tLstO (t : TA) : TE := fun σ H Q => t σ H fun xs H1 => xs.length ≤ sizeLine ∧ ∀ p H2, H1 p = none → Same H1 H2 → H2 p = some (.lst xs) → Q (.ref p) H2
theorem pe_tupO {x1} (h : PA X es t) : PE X (.Tuple es x1 pos) (tTupO t) := by
  intro pins s σ H Q I hq
  refine wpAny_Tuple_spliced (thn (h pos pins s σ H _ I hq) fun us s1 ⟨xs, H1, I1, r, z, q⟩ => ⟨by rw [← r.length]; exact z, ?_⟩)
  have hf : H1 s1.heap.objs.size = none := I1.hok.fresh (Nat.le_refl _)
  refine ⟨.ref s1.heap.objs.size, upd H1 s1.heap.objs.size (.tup xs), I1.laid (t' := s1.toks) (fun b u e => Heap.get?_push_of_some _ e) (Nat.le_refl _) ?_, rfl, q _ _ hf (same_new hf _) upd_same⟩
  exact ⟨z, us, r, ⟨_, Heap.get?_push_size _ rfl, rfl, _, rfl⟩⟩
theorem pe_lstO (h : PA X es t) : PE X (.List es pos) (tLstO t) := by
  intro pins s σ H Q I hq
  refine wpAny_List_spliced (thn (h pos pins s σ H _ I hq) fun us s1 ⟨xs, H1, I1, r, z, q⟩ => ⟨by rw [← r.length]; exact z, ?_⟩)
  have hf : H1 s1.heap.objs.size = none := I1.hok.fresh (Nat.le_refl _)
  refine ⟨.ref s1.heap.objs.size, upd H1 s1.heap.objs.size (.lst xs), I1.laid (t' := s1.toks) (fun b u e => Heap.get?_push_of_some _ e) (Nat.le_refl _) ?_, rfl, q _ _ hf (same_new hf _) upd_same⟩
  exact ⟨z, us, 0, r, Heap.get?_push_size _ rfl⟩
end
section
variable {env : Env} {es : List Expr}
theorem star_Name {x p} : starEach (.Name x p :: es) env = (false, eval (.Name x p) env) :: starEach es env := by first | rfl | with_unfolding_all rfl
theorem star_Constant {x j p} : starEach (.Constant x j p :: es) env = (false, eval (.Constant x j p) env) :: starEach es env := by first | rfl | with_unfolding_all rfl
theorem star_BinOp {a o b p} : starEach (.BinOp a o b p :: es) env = (false, eval (.BinOp a o b p) env) :: starEach es env := by first | rfl | with_unfolding_all rfl
theorem star_UnaryOp {o b p} : starEach (.UnaryOp o b p :: es) env = (false, eval (.UnaryOp o b p) env) :: starEach es env := by first | rfl | with_unfolding_all rfl
theorem star_Call {a o b p} : starEach (.Call a o b p :: es) env = (false, eval (.Call a o b p) env) :: starEach es env := by first | rfl | with_unfolding_all rfl
theorem star_Subscript {a o p} : starEach (.Subscript a o p :: es) env = (false, eval (.Subscript a o p) env) :: starEach es env := by first | rfl | with_unfolding_all rfl
end
theorem plain_Name {x p} : PlainIx (.Name x p) := fun _ _ => rfl
theorem plain_Constant {x j p} : PlainIx (.Constant x j p) := fun _ _ => rfl
theorem plain_BinOp {a o b p} : PlainIx (.BinOp a o b p) := fun _ _ => rfl
section
variable {X : Cx} {pos : Pos}
noncomputable def gN (i : Nat) : TG := fun v σ H Q => ∀ σ', σ' = σ.set i (some v) → Q σ' H
theorem pg_nameN {i : Nat} {x : Str} {pos' : Pos} (hN : X.N.Nodup) (hi : X.N[i]? = some x) (hx : Loc X.env.scope x) (hf : X.fn x = true ∨ X.env.scope.names.lookup x = some .local := by first | exact .inl rfl | exact .inr rfl | assumption) : PG X (.Name x pos') (gN i) := by
  intro pins s σ H v u Q I r h
  exact pg_name hN hi hx hf pins s σ H v u Q I r (h _ rfl)
theorem ps_setN {i : Nat} {x : Str} {e : Expr} {te : TE} {pos' : Pos} (hN : X.N.Nodup) (hi : X.N[i]? = some x) (hx : Loc X.env.scope x) (he : PE X e te) (hs : swapsWith e (some (.Name x pos')) pos.line X.env = pure false := by rfl) (hf : X.fn x = true ∨ X.env.scope.names.lookup x = some .local := by first | exact .inl rfl | exact .inr rfl | assumption) :
    PS X (.Assign [.Name x pos'] e pos) (tAsg te (gN i)) := by
  intro pins s σ H D I h
  exact wpAny_Assign_Name (thn (he pins s σ H _ I h) fun u s1 ⟨v, H1, I1, r1, q1⟩ => store_ok I1 hN hi hx r1 (fun s2 I2 => ⟨_, H1, I2, q1 _ rfl⟩) hf) hs
end
structure CxIs (X : Cx) (N : List Str) (sc : Scope) : Prop where
  n : X.N = N
  s : X.env.scope = sc
  calm : X.calm = true
  own : PassesOwn (model X.prog X.w) X.A X.env X.xe
section
variable {X : Cx} {N : List Str} {sc : Scope} {pos : Pos}
theorem xv (c : CxIs X N sc) {i : Nat} {x : Str} (hi : N[i]? = some x) (hv : sc.names.lookup x = some .local) (hd : (x == ("__debug__" : Str)) = false) (hcd : (x == ("__classdict__" : Str)) = false) : PE X (.Name x pos) (tVar i) :=
  pe_var (by rw [c.n]; exact hi) (Or.inl (by rw [c.s]; exact hv)) hd hcd
theorem xs (c : CxIs X N sc) (nd : N.Nodup) {i : Nat} {x : Str} {e : Expr} {te : TE} {pos' : Pos} (hi : N[i]? = some x) (hv : sc.names.lookup x = some .local) (he : PE X e te) (hs : swapsWith e (some (.Name x pos')) pos.line X.env = pure false) :
    PS X (.Assign [.Name x pos'] e pos) (tAsg te (gN i)) :=
  ps_setN (by rw [c.n]; exact nd) (by rw [c.n]; exact hi) (Or.inl (by rw [c.s]; exact hv)) he hs (Or.inr (by rw [c.s]; exact hv))
theorem xt (c : CxIs X N sc) (nd : N.Nodup) {i : Nat} {x : Str} (hi : N[i]? = some x) (hv : sc.names.lookup x = some .local) : PG X (.Name x pos) (gN i) :=
  pg_nameN (by rw [c.n]; exact nd) (by rw [c.n]; exact hi) (Or.inl (by rw [c.s]; exact hv)) (Or.inr (by rw [c.s]; exact hv))
theorem xg (c : CxIs X N sc) {x : Str} (hv : sc.names.lookup x = some .globalImplicit) : Gl X x := by
  show X.env.scope.names.lookup x = _
  rw [c.s]; exact hv
end
structure WE (X : Cx) (e : Expr) (t : TE) : Prop where
  h : PE X e t
structure WT (X : Cx) (e : Expr) (t : TT) : Prop where
  h : PT X e t
structure WW (X : Cx) (e : Expr) (t : TT) : Prop where
  h : PW X e t
structure WA (X : Cx) (e : List Expr) (t : TA) : Prop where
  h : PA X e t
structure WS (X : Cx) (e : Stmt) (t : TS) : Prop where
  h : PS X e t
structure WSs (X : Cx) (e : List Stmt) (t : TS) : Prop where
  h : PSs X e t
structure WG (X : Cx) (e : Expr) (t : TG) : Prop where
  h : PG X e t
structure WI (X : Cx) (tg e : Expr) (t : TI) : Prop where
  h : PI X tg e t
structure WO (X : Cx) (e : Option Expr) (t : TO) : Prop where
  h : PO X e t
theorem WW.pt {X : Cx} {e : Expr} {t : TT} (h : WW X e t) : WT X e t := ⟨h.h.pt⟩
section
variable {X : Cx} {a b c e o : Expr} {es rest : List Expr} {ta tb tc te to : TE} {tA tB' tC' : TT} {t : TA} {pos p apos cpos p2 pos' : Pos} {st : Stmt} {sts bd ob : List Stmt} {u v : TS} {x : Str} {lo hi : Option Expr} {tl th : TO} {tg : Expr}
theorem we_int {i j} : WE X (.Constant (.int i) j pos) (tC (.int i)) := ⟨pe_int⟩
theorem we_bl {i j} : WE X (.Constant (.bool i) j pos) (tC (.bl i)) := ⟨pe_bl⟩
theorem we_str {i j} : WE X (.Constant (.str i) j pos) (tC (.str i)) := ⟨pe_str⟩
theorem we_glob {v : V} {u : Value} (hg : Gl X x) (hm : X.mg x = some u) (r : RelV v u) (hd : (x == ("__debug__" : Str)) = false := by decide) : WE X (.Name x pos) (tC v) := ⟨pe_glob hg hm r hd⟩
theorem we_bltn {v : V} {u : Value} (hg : Gl X x) (hm : X.mg x = none) (hv : bootBuiltins x = some u) (r : RelV v u) (hn : x ≠ "__name__" := by decide) (hd : (x == ("__debug__" : Str)) = false := by decide) : WE X (.Name x pos) (tC v) := ⟨pe_bltn hg hm hv r hn hd⟩
theorem we_op {op : Operator} {r : R2} (ho : OpR X (binaryOp op) r) (ha : WE X a ta) (hb : WE X b tb) : WE X (.BinOp a op b pos) (tOp r ta tb) := ⟨pe_op ho ha.h hb.h⟩
theorem we_un {op : UnaryOp} {r : V → Hp → VK → Prop} (ho : UnR X (unaryOp op) r) (ha : WE X a ta) : WE X (.UnaryOp op a pos) (tUn r ta) := ⟨pe_un ho ha.h⟩
theorem we_not (ha : WE X a ta) : WE X (.UnaryOp .Not a pos) (tNotV ta) := ⟨pe_not ha.h⟩
theorem we_one {op} (h : WE X a ta) : WE X (.BoolOp op [a] pos) ta := ⟨pe_one h.h⟩
theorem we_and (ha : WE X a ta) (hb : WE X (.BoolOp .And (b :: rest) pos) tb) : WE X (.BoolOp .And (a :: b :: rest) pos) (tAndV ta tb) := ⟨pe_and ha.h hb.h⟩
theorem we_or (ha : WE X a ta) (hb : WE X (.BoolOp .Or (b :: rest) pos) tb) : WE X (.BoolOp .Or (a :: b :: rest) pos) (tOrV ta tb) := ⟨pe_or ha.h hb.h⟩
theorem wt_cmpR {op : CmpOp} {r : R2} (ho : OpR X (compareOp op) r) (ha : WE X a ta) (hb : WE X b tb) (hm : behindInMarks op b = false) : WT X (.Compare a [op] [b] pos) (tTest (tOp r ta tb)) := ⟨pt_cmpR ho ha.h hb.h hm⟩
theorem wt_not (ha : WT X a tA) : WT X (.UnaryOp .Not a pos) (tNot tA) := ⟨pt_not ha.h⟩
theorem ww_and (ha : WT X a tA) (hb : WW X (.BoolOp .And (b :: rest) pos) tB') : WW X (.BoolOp .And (a :: b :: rest) pos) (tAnd tA tB') := ⟨pw_and ha.h hb.h⟩
theorem ww_or (ha : WT X a tA) (hb : WW X (.BoolOp .Or (b :: rest) pos) tB') : WW X (.BoolOp .Or (a :: b :: rest) pos) (tOr tA tB') := ⟨pw_or ha.h hb.h⟩
theorem ww_and1 (ha : WT X a tA) : WW X (.BoolOp .And [a] pos) tA := ⟨pw_and1 ha.h⟩
theorem ww_or1 (ha : WT X a tA) : WW X (.BoolOp .Or [a] pos) tA := ⟨pw_or1 ha.h⟩
theorem wt_val (h : WE X e te) (he : ∀ whole, isTrue e X.env whole = (do let v ← whole; standAt e.pos; holding [v] (truthy v)) := by intro _; rfl) : WT X e (tB te) := ⟨pt_val h.h he⟩
theorem wa_nil : WA X [] tNil := ⟨pa_nil⟩
theorem wa_cons (ha : WE X e te) (hr : WA X es t) (hs : starEach (e :: es) X.env = (false, eval e X.env) :: starEach es X.env) : WA X (e :: es) (tCons te t) := ⟨pa_cons ha.h hr.h hs⟩
theorem we_lstO (h : WA X es t) : WE X (.List es pos) (tLstO t) := ⟨pe_lstO h.h⟩
theorem we_tupO {x1} (h : WA X es t) : WE X (.Tuple es x1 pos) (tTupO t) := ⟨pe_tupO h.h⟩
theorem we_ix {r : R2} (hr : IxR X r) (ha : WE X a ta) (hb : WE X b tb) (hs : PlainIx b) : WE X (.Subscript a b pos) (tOp r ta tb) := ⟨pe_ix hr ha.h hb.h hs⟩
theorem we_slice {r : V → Option Int → Option Int → Hp → VK → Prop} (hr : SlR X r) (he : WE X e te) (hl : WO X lo tl) (hu : WO X hi th) : WE X (.Subscript e (.Slice lo hi none p2) pos) (tSl r te tl th) := ⟨pe_slice hr he.h hl.h hu.h⟩
theorem wo_none : WO X none tNoPart := ⟨po_none⟩
theorem wo_some (h : WE X e te) : WO X (some e) (tPart te) := ⟨po_some h.h⟩
section
variable {CX : CXT} {k : Nat} {f C : Addr} {fd : FuncData} {ps : List Str} {sp : Sp} {dvs : List V} {ds : List Value} {E : XK} {m : Str} {id T : String} {r : List V → Hp → VK → Prop}
theorem we_call (F : FnOk X.prog X.w X.K X.mg X.base CX k f fd ps sp) (hr : Room k X.A) (hg : Gl X x) (hm : X.mg x = some (.ref f)) (hk : PySem.W.keepIn X.K (.ref f) = true) (hb : Binds X.K fd ps ds) (hd : Vals dvs ds) (hx : Passes CX X E)
    (ha : WA X (e :: es) t) (hdb : (x == ("__debug__" : Str)) = false := by decide) (he : starEach (e :: es) X.env = (false, eval e X.env) :: starEach es X.env := by rfl) (hpl : (backTo pos (starEach es X.env)).any (·.1) = false := by rfl) :
    WE X (.Call (.Name x p) (e :: es) [] pos) (tCall sp dvs E t) := ⟨pe_call F hr hg hm hk hb hd hx ha.h hdb he hpl⟩
theorem we_callB (hc : CallR X (.builtin id) r) (hg : Gl X x) (hm : X.mg x = none) (hv : bootBuiltins x = some (.builtin id)) (ha : WA X (e :: es) t) (hn : x ≠ "__name__" := by decide) (hdb : (x == ("__debug__" : Str)) = false := by decide)
    (he : starEach (e :: es) X.env = (false, eval e X.env) :: starEach es X.env := by rfl) (hpl : (backTo pos (starEach es X.env)).any (·.1) = false := by rfl) : WE X (.Call (.Name x p) (e :: es) [] pos) (tCB r t) := ⟨pe_callB hc hg hm hv ha.h hn hdb he hpl⟩
theorem we_callTy (hc : CallR X (.type T) r) (hg : Gl X x) (hm : X.mg x = none) (hv : bootBuiltins x = some (.type T)) (ha : WA X (e :: es) t) (hn : x ≠ "__name__" := by decide) (hdb : (x == ("__debug__" : Str)) = false := by decide)
    (he : starEach (e :: es) X.env = (false, eval e X.env) :: starEach es X.env := by rfl) (hpl : (backTo pos (starEach es X.env)).any (·.1) = false := by rfl) : WE X (.Call (.Name x p) (e :: es) [] pos) (tCB r t) := ⟨pe_callTy hc hg hm hv ha.h hn hdb he hpl⟩
end
section
variable {name : Str} {T id : String} {r : V → List V → Hp → VK → Prop}
theorem we_bm (pa : PlainAttrs T) (slot : Slot T name id) (hty : typeOf (.builtin id) = pure (.type "method_descriptor")) (hm : MtR X id r) (ho : WE X o to) (ha : WA X (e :: es) t)
    (hbase : attributeBase o name X.env (eval o X.env) = eval o X.env := by rfl)
    (hfew : ((backTo cpos (starEach (e :: es) X.env)).all (fun x => !x.1) && (backToKw cpos (keywordEach [] X.env)).all (fun x => x.1.isSome)
      && decide ((e :: es).length + ([] : List Keyword).length + (if ([] : List Keyword).isEmpty then 0 else 1) < 30)) = true := by rfl)
    (hline : (apos.endLine == cpos.line) = true := by rfl) (hs : starEach (e :: es) X.env = (false, eval e X.env) :: starEach es X.env := by rfl) (hplain : (backTo cpos (starEach es X.env)).any (·.1) = false := by rfl) :
    WE X (.Call (.Attribute o name apos) (e :: es) [] cpos) (tBM X.K T r to t) := ⟨pe_bm pa slot hty hm ho.h ha.h hbase hfew hline hs hplain⟩
theorem we_bm0 (pa : PlainAttrs T) (slot : Slot T name id) (hty : typeOf (.builtin id) = pure (.type "method_descriptor")) (hm : MtR X id r) (ho : WE X o to)
    (hbase : attributeBase o name X.env (eval o X.env) = eval o X.env := by rfl) (hline : (apos.endLine == cpos.line) = true := by rfl) : WE X (.Call (.Attribute o name apos) [] [] cpos) (tBM0 X.K T r to) := ⟨pe_bm0 pa slot hty hm ho.h hbase hline⟩
end
section
variable {f : Str} {tv : TE} {value : Expr}
end
section
variable {CX : CXT} {k : Nat} {f C : Addr} {fd : FuncData} {ps : List Str} {sp : Sp} {dvs : List V} {ds : List Value} {E : XK} {m : Str}
end
theorem wss_nil : WSs X [] tNext := ⟨pss_nil⟩
theorem wss_cons (h1 : WS X st u) (h2 : WSs X sts v) : WSs X (st :: sts) (tSeq u v) := ⟨pss_cons h1.h h2.h⟩
theorem wss_one (h1 : WS X st u) : WSs X [st] u := ⟨pss_one h1.h⟩
theorem ws_if (hc : WT X c tA) (ha : WSs X bd u) (hb : WSs X ob v) : WS X (.If c bd ob pos) (tIfS tA u v) := ⟨ps_if hc.h ha.h hb.h⟩
theorem ws_ret (he : WE X e te) : WS X (.Return (some e) pos) (tRet te) := ⟨ps_ret he.h⟩
theorem ws_expr (he : WE X e te) (hs : swapsWith e none pos.line X.env = pure false := by rfl) : WS X (.Expr e pos) (tDrop te) := ⟨ps_expr he.h hs⟩
theorem ws_for {iter : Expr} {wi : TI} {g : TG} (hp : PassesOwn (model X.prog X.w) X.A X.env X.xe) (hc : X.calm = true) (hi : WI X tg iter wi) (hg : WG X tg g) (hb : WSs X bd u)
    (hs : ∀ x, foldedSetIterable iter X.env x = pure x := by intro _; rfl) : WS X (.For tg iter bd [] pos) (tFor wi g u) := ⟨ps_for hp hc hi.h hg.h hb.h hs⟩
theorem wi_list (hl : WE X e te) : WI X tg e (iList X.K te) := ⟨pi_list hl.h⟩
theorem wi_range1 (hg : Gl X "range") (hm : X.mg "range" = none) (ha : WA X [a] t) (hs : starEach [a] X.env = [(false, eval a X.env)] := by rfl) : WI X tg (.Call (.Name "range" p) [a] [] pos) (iRng1 t) := ⟨pi_range1 hg hm ha.h hs⟩
theorem wi_range2 (hg : Gl X "range") (hm : X.mg "range" = none) (ha : WA X [a, b] t) (hs : starEach [a, b] X.env = [(false, eval a X.env), (false, eval b X.env)] := by rfl) (hs2 : starEach [b] X.env = [(false, eval b X.env)] := by rfl) :
    WI X tg (.Call (.Name "range" p) [a, b] [] pos) (iRng2 t) := ⟨pi_range2 hg hm ha.h hs hs2⟩
theorem ws_asg {g : TG} (he : WE X e te) (hg : WG X tg g) (hs : swapsWithSole [tg] e pos.line X.env = pure false := by rfl) (hw : swappedStores [tg] e X.env = pure none := by rfl)
    (h1 : (assignEach [tg] X.env).map (·.2) = [assign tg X.env] := by rfl) : WS X (.Assign [tg] e pos) (tAsg te g) := ⟨ps_asg he.h hg.h hs hw h1⟩
theorem wg_sub {ts : TSet} (ho : WE X o to) (hi : WE X a ta) (hs : PSet X ts)
    (ha : ∀ v, assign (.Subscript o a pos) X.env v = (do
      let ov ← holding [v] (eval o X.env)
      let iv ← holding [v, ov] (eval a X.env)
      standAt pos
      holding [v, ov, iv] (setItem ov iv v)
      release [v, ov, iv] []) := by intro _; rfl) : WG X (.Subscript o a pos) (gSub to ta ts) := ⟨pg_sub ho.h hi.h hs ha⟩
end
section
variable {X : Cx} {N : List Str} {sc : Scope} {pos : Pos}
theorem wxv (c : CxIs X N sc) {i : Nat} {x : Str} (hi : N[i]? = some x) (hv : sc.names.lookup x = some .local) (hd : (x == ("__debug__" : Str)) = false) (hcd : (x == ("__classdict__" : Str)) = false) : WE X (.Name x pos) (tVar i) := ⟨xv c hi hv hd hcd⟩
theorem wxs (c : CxIs X N sc) (nd : N.Nodup) {i : Nat} {x : Str} {e : Expr} {te : TE} {pos' : Pos} (hi : N[i]? = some x) (hv : sc.names.lookup x = some .local) (he : WE X e te) (hs : swapsWith e (some (.Name x pos')) pos.line X.env = pure false) :
    WS X (.Assign [.Name x pos'] e pos) (tAsg te (gN i)) := ⟨xs c nd hi hv he.h hs⟩
theorem wxt (c : CxIs X N sc) (nd : N.Nodup) {i : Nat} {x : Str} (hi : N[i]? = some x) (hv : sc.names.lookup x = some .local) : WG X (.Name x pos) (gN i) := ⟨xt c nd hi hv⟩
end
theorem unW {X : Cx} {b : List Stmt} {D : Ends} {σ : St} {H : Hp} (h : ∃ t, WSs X b t ∧ t D σ H) : ∃ t, PSs X b t ∧ t D σ H := let ⟨t, h1, h2⟩ := h; ⟨t, h1.h, h2⟩
noncomputable def Cal (P : Program) (w : World) (K : PySem.W.Frag) (mg : Str → Option Value) (base : Heap) (x : Str) (k : Nat) (ps : List Str) (sp : Sp) : Prop :=
  ∃ (f : Addr) (fd : FuncData), FnOk P w K mg base CX0 k f fd ps sp ∧ Binds K fd ps [] ∧ PySem.W.keepIn K (.ref f) = true ∧ mg x = some (.ref f)
noncomputable def clsAt (K : PySem.W.Frag) (x : Str) : Addr := match PySem.W.nsIn K mainGlobals x with
  | some (some (.ref a)) => a
  | _ => 0
theorem clsAt_eq {K : PySem.W.Frag} {x : Str} {a : Addr} (h : PySem.W.nsIn K mainGlobals x = some (some (.ref a))) : clsAt K x = a := by unfold clsAt; rw [h]
theorem ifT {c A B : Prop} [Decidable c] (hc : c) (h : A) : if decide c = true then A else B := by rw [decide_eq_true hc]; exact iteT h
theorem ifF {c A B : Prop} [Decidable c] (hc : ¬ c) (h : B) : if decide c = true then A else B := by rw [decide_eq_false hc]; exact iteF h
theorem if2 {c A B : Prop} [Decidable c] (h1 : c → A) (h2 : ¬ c → B) : if decide c = true then A else B := by
  by_cases h : c
  · exact ifT h (h1 h)
  · exact ifF h (h2 h)
theorem ifnF {c A B : Prop} [Decidable c] (hc : c) (h : B) : if (!decide c) = true then A else B := by rw [decide_eq_true hc]; exact iteF h
theorem inj_int {i j : Int} (h : i = j) : V.int i = V.int j := by rw [h]
theorem ne_int {i j : Int} (h : ¬ i = j) : ¬ V.int i = V.int j := fun e => h (V.int.inj e)
theorem of_not_int {i j : Int} (h : ¬ V.int i = V.int j) : ¬ i = j := fun e => h (by rw [e])
theorem of_int {i j : Int} (h : V.int i = V.int j) : i = j := V.int.inj h
end L2
namespace L2
open PySem PySem.W PySem.Calls PyProof.Rows
theorem attach_callB {l : PySem.W.OpenLaw} {n : Nat} {q : Program} {loose : List Str} {XP : (Str → Option Value) → Heap → Prop} {YP : World → Heap → Prop} {d : DefRec}
    (hn : l.most = some n) (hdf : d.params.defaults = [])
    (call : ∀ (w : World) (s₀ s₁ : Shared) (mg mb : Str → Option Value) (fa : Addr) (o : Obj) (pm cd doc : Value) (a : Addr) (vs : List Value) (ns : List Int),
      Ground q loose [] XP w s₀ mg mb s₁.heap → YP w s₁.heap →
      s₁.heap.get? fa = some o → o.data = .func (docDef d.name d.params d.body d.scope pm cd doc) → s₁.heap.CodeRec cd d.name → mg d.name = some (.ref fa) →
      s₁.heap.get? a = some { cls := .type "list", data := .seq vs.toArray } → IntsAre vs ns → ns.length ≤ n → (∀ z ∈ ns, Builtin.Int.intBits z ≤ 1048576) → s₁.gens = #[] →
      codeAny (model l.prog w) callerA (.call (.ref fa) ⟨[.ref a], []⟩) (fun r s' => r = .ok (.ret (.bool true)) ∧ OldK s₁.heap s'.heap ∧ s'.os = s₁.os ∧ AllBare s'.gens) s₁) :
    PySem.W.WalkO q loose XP YP l.row.toRowW d [] (fun f vs => PySem.call f vs) := by
  intro w s₀ s₁ mg mb G Y fa o pm cd doc dV kV ho hd hcd hD hmg hg args vals as hpre hlay hrd hwl hlo
  obtain rfl : dV = .none := PySem.W.Dflts.none hD hdf
  obtain rfl : kV = .none := PySem.W.Dflts.noKw hD
  obtain ⟨a, vs, ns, rfl, rfl, hobj, hints, hlen⟩ := Att.script_of hn hpre hwl
  have hbits : ∀ z ∈ ns, Builtin.Int.intBits z ≤ 1048576 := fun z hz => by
    have h1 := PySem.W.layableW_arg hlay _ (List.mem_singleton.mpr rfl)
    have h2 := PySem.W.layableW_item h1 (.int z) (List.mem_map.mpr ⟨z, hz, rfl⟩)
    exact intBits_le_of_layable (show PyData.layable0 (.int z) = true from h2)
  refine PySem.W.enter_call (codeAny_mono (call w s₀ s₁ mg mb fa o pm cd doc a vs ns G Y ho (PySem.W.fd_plain hd) hcd hmg hobj hints hlen hbits hg) fun r s' hq => ?_)
  obtain ⟨rfl, h2, h3, h4⟩ := hq
  exact ⟨.inl ⟨.bool true, .bool true, [], rfl, fun _ => rfl, .bool true, Att.post_true l _, fun _ => ⟨List.Pairwise.nil, fun _ hm => (nomatch hm)⟩⟩, h2, h3, h4⟩
theorem walk_ofB {l : PySem.W.OpenLaw} {n k : Nat} {q : Program} {loose : List Str} {XP : (Str → Option Value) → Heap → Prop} {YP : World → Heap → Prop} {d : DefRec} {K : Params → PySem.W.Frag} {CX : World → CXT} {sp : World → Sp} {x : Str}
    (hn : l.most = some n) (hn2 : n ≤ sizeLine) (hdf : d.params.defaults = []) (hr : Room k callerA)
    (hY : ∀ (w : World) (h : Heap), YP w h → (K w.params).In h)
    (F : ∀ (w : World) (mg : Str → Option Value) (fa : Addr) (h : Heap), (K w.params).In h → h.Ns mainGlobals mg → mg d.name = some (.ref fa) →
      ∃ fd : FuncData, (∀ (s : Shared) (u : Value), BindsTo s fd ⟨[u], []⟩ [(x, u)]) ∧
        ∀ base : Heap, (K w.params).In base → base.Ns mainGlobals mg → FnOk l.prog w (K w.params) mg base (CX w) k fa fd [x] (sp w))
    (hsp : ∀ (w : World) (H : Hp) (a : Addr) (ns : List Int), ns.length ≤ n → (∀ z ∈ ns, Builtin.Int.intBits z ≤ 1048576) → Only H → SqL (K w.params) H a (ns.map V.int) → sp w [.ref a] H (fun v _ => v = .bl true) fun _ _ _ => False)
    (hCX : ∀ (w : World) (H : Hp) (s : Shared) (e : Value) (s' : Shared), CX w [] H s (fun _ _ _ => False) e s' → False) :
    PySem.W.WalkO q loose XP YP l.row.toRowW d [] (fun f vs => PySem.call f vs) := by
  refine attach_callB hn hdf fun w s₀ s₁ mg mb fa o pm cd doc a vs ns G Y ho hd hcd hmg hobj hints hlen hbits hg => ?_
  have KX := hY w _ Y
  obtain ⟨fd, hb, hF⟩ := F w mg fa _ KX G.T.g hmg
  exact law_call KX G.T.g G.T.b G.T.builtins G.T.nolimit hg hobj hints (Nat.le_trans hlen hn2) hr hF hb (fun H hO hS => hsp w H a ns hlen hbits hO hS) fun H e s' => hCX w H s₁ e s'
noncomputable def pick2 {α : Type} (i : Int) (a b : α) : α := if i = 0 then a else b
noncomputable def pick3 {α : Type} (i : Int) (a b c : α) : α := if i = 0 then a else if i = 1 then b else c
noncomputable def pick4 {α : Type} (i : Int) (a b c d : α) : α := if i = 0 then a else if i = 1 then b else if i = 2 then c else d
theorem at2i {a b i : Int} (h0 : 0 ≤ i) (h1 : i < 2) : atI [V.int a, V.int b] i = some (.int (pick2 i a b)) := by
  rcases (by omega : i = 0 ∨ i = 1) with rfl | rfl <;> rfl
theorem at4i {a b c d i : Int} (h0 : 0 ≤ i) (h1 : i < 4) : atI [V.int a, V.int b, V.int c, V.int d] i = some (.int (pick4 i a b c d)) := by
  rcases (by omega : i = 0 ∨ i = 1 ∨ i = 2 ∨ i = 3) with rfl | rfl | rfl | rfl <;> rfl
theorem at3s {a b c : Str} {i : Int} (h0 : 0 ≤ i) (h1 : i < 3) : atI [V.str a, V.str b, V.str c] i = some (.str (pick3 i a b c)) := by
  rcases (by omega : i = 0 ∨ i = 1 ∨ i = 2) with rfl | rfl | rfl <;> rfl
theorem pick2_of {α : Type} {P : α → Prop} {i : Int} {a b : α} (ha : P a) (hb : P b) : P (pick2 i a b) := by
  unfold pick2; split <;> assumption
theorem pick3_of {α : Type} {P : α → Prop} {i : Int} {a b c : α} (ha : P a) (hb : P b) (hc : P c) : P (pick3 i a b c) := by
  unfold pick3; split; assumption; split <;> assumption
theorem pick4_of {α : Type} {P : α → Prop} {i : Int} {a b c d : α} (ha : P a) (hb : P b) (hc : P c) (hd : P d) : P (pick4 i a b c d) := by
  unfold pick4; split; assumption; split; assumption; split <;> assumption
theorem md0 {x : Int} {n : Int} (h : 0 < n) : 0 ≤ x % n := Int.emod_nonneg x (by omega)
theorem md1 {x : Int} {n : Int} (h : 0 < n) : x % n < n := Int.emod_lt_of_pos x h
theorem gcd_turn {x y : Int} (hx : 0 ≤ x) (hy : 0 < y) : Int.gcd y (x % y) = Int.gcd x y := by
  obtain ⟨m, rfl⟩ := Int.eq_ofNat_of_zero_le hx
  obtain ⟨n, rfl⟩ := Int.eq_ofNat_of_zero_le (Int.le_of_lt hy)
  show Nat.gcd n ((m : Int) % (n : Int)).natAbs = Nat.gcd m n
  have e : ((m : Int) % (n : Int)).natAbs = m % n := by
    rw [← Int.natCast_emod]; rfl
  rw [e, Nat.gcd_comm n, Nat.gcd_comm m n]
  exact (Nat.gcd_rec n m).symm
theorem gcd_end {x y : Int} (hx : 0 ≤ x) (hy : y = 0) : x = ((Int.gcd x y : Nat) : Int) := by
  subst hy
  rw [Int.gcd_zero_right]; omega
theorem gcd_pos {x y : Int} (hy : 0 < y) : 0 < ((Int.gcd x y : Nat) : Int) := by
  have : 0 < Int.gcd x y := Int.gcd_pos_of_ne_zero_right x (by omega)
  omega
theorem gcd_le {x y : Int} (hy : 0 < y) : ((Int.gcd x y : Nat) : Int) ≤ y := Int.le_of_dvd hy (Int.gcd_dvd_right x y)
structure StepD where
  w : Str
  n : Int
  d : Int
  p : Int
  y : Str
  u : Int
noncomputable def StepD.vals (st : StepD) : List V := [.str st.w, .int st.n, .int st.d, .int st.p, .str st.y, .int st.u]
structure StepD.Ok (st : StepD) : Prop where
  w : st.w = "times" ∨ st.w = "add" ∨ st.w = "off"
  n0 : 1 ≤ st.n
  n1 : st.n ≤ 100
  d0 : 1 ≤ st.d
  d1 : st.d ≤ 100
  off : st.w = "off" → st.n < st.d
  p0 : 0 ≤ st.p
  p1 : st.p ≤ 10 ^ 30
  y : st.y = "down" ∨ st.y = "up" ∨ st.y = "near"
  u0 : 1 ≤ st.u
  u1 : st.u ≤ 100
noncomputable def StepD.num (st : StepD) : Int := if st.w = "add" then st.d + st.n else if st.w = "off" then st.d - st.n else st.n
theorem StepD.Ok.num0 {st : StepD} (h : st.Ok) : 1 ≤ st.num := by
  have := h.n0; have := h.d0; have := h.off
  unfold StepD.num
  split
  · omega
  · split
    · rename_i q; have := h.off q; omega
    · omega
noncomputable def StepD.g (st : StepD) : Int := ((Int.gcd st.num st.d : Nat) : Int)
noncomputable def StepD.sn (st : StepD) : Int := st.num / st.g
noncomputable def StepD.sd (st : StepD) : Int := st.d / st.g
theorem low_mul {x y g : Int} (hg : g = ((Int.gcd x y : Nat) : Int)) : x / g * g = x ∧ y / g * g = y := by
  subst hg
  exact ⟨Int.ediv_mul_cancel (Int.gcd_dvd_left x y), Int.ediv_mul_cancel (Int.gcd_dvd_right x y)⟩
theorem low_cross {x y g : Int} (hg : g = ((Int.gcd x y : Nat) : Int)) (hp : 0 < g) : x / g * y = x * (y / g) := by
  obtain ⟨a, b⟩ := low_mul hg
  have e1 : x / g * y = x / g * (y / g * g) := by rw [b]
  have e2 : x * (y / g) = x / g * g * (y / g) := by rw [a]
  rw [e1, e2, Int.mul_assoc, Int.mul_comm g]
theorem low_gcd {x y : Int} (hy : 0 < y) : Int.gcd (x / ((Int.gcd x y : Nat) : Int)) (y / ((Int.gcd x y : Nat) : Int)) = 1 := by
  have h : 0 < Int.gcd x y := Int.gcd_pos_of_ne_zero_right x (by omega)
  exact Int.gcd_ediv_gcd_ediv_gcd h
theorem low_pos {x y : Int} (hx : 0 < x) (hy : 0 < y) : 1 ≤ x / ((Int.gcd x y : Nat) : Int) := by
  have hg := gcd_pos (x := x) hy
  obtain ⟨a, _⟩ := low_mul (x := x) (y := y) rfl
  have : 0 < x / ((Int.gcd x y : Nat) : Int) := by
    refine Int.not_le.mp fun c => ?_
    have := Int.mul_le_mul_of_nonneg_right c (Int.le_of_lt hg)
    omega
  omega
theorem low_pos' {x y : Int} (hy : 0 < y) : 1 ≤ y / ((Int.gcd x y : Nat) : Int) := by
  have hg := gcd_pos (x := x) hy
  obtain ⟨_, a⟩ := low_mul (x := x) (y := y) rfl
  have : 0 < y / ((Int.gcd x y : Nat) : Int) := by
    refine Int.not_le.mp fun c => ?_
    have := Int.mul_le_mul_of_nonneg_right c (Int.le_of_lt hg)
    omega
  omega
theorem div_le' {x g : Int} (hx : 0 ≤ x) (hg : 0 < g) : x / g ≤ x := Int.ediv_le_self g hx
theorem StepD.Ok.g0 {st : StepD} (h : st.Ok) : 0 < st.g := gcd_pos (by have := h.d0; omega)
theorem StepD.Ok.sn0 {st : StepD} (h : st.Ok) : 1 ≤ st.sn := low_pos (by have := h.num0; omega) (by have := h.d0; omega)
theorem StepD.Ok.sd0 {st : StepD} (h : st.Ok) : 1 ≤ st.sd := low_pos' (by have := h.d0; omega)
theorem StepD.Ok.sd1 {st : StepD} (h : st.Ok) : st.sd ≤ 100 := Int.le_trans (div_le' (by have := h.d0; omega) h.g0) h.d1
theorem StepD.Ok.m1 {st : StepD} (h : st.Ok) : CMulB st.sn st.d := mul_r (by have := h.d0; omega) (by have := h.d1; omega)
theorem StepD.Ok.m2 {st : StepD} (h : st.Ok) : CMulB st.num st.sd := mul_r (by have := h.sd0; omega) (by have := h.sd1; omega)
theorem StepD.Ok.low {st : StepD} (h : st.Ok) : Int.gcd st.sn st.sd = 1 := low_gcd (by have := h.d0; omega)
theorem StepD.gn (st : StepD) : st.sn * st.g = st.num := (low_mul (x := st.num) (y := st.d) rfl).1
theorem StepD.gd (st : StepD) : st.sd * st.g = st.d := (low_mul (x := st.num) (y := st.d) rfl).2
noncomputable def roundI (num den unit : Int) (way : Str) : Int :=
  if way = "down" then num / (den * unit) * unit else if way = "up" then (num + den * unit - 1) / (den * unit) * unit else (2 * num + den * unit) / (2 * (den * unit)) * unit
theorem fl {x c : Int} (h : 0 < c) : c * (x / c) ≤ x ∧ x < c * (x / c) + c := ⟨Int.mul_ediv_self_le (by omega), Int.lt_mul_ediv_self_add h⟩
noncomputable def afterI (st : StepD) (m : Int) : Int := roundI (m * st.sn + st.p * st.sd) st.sd st.u st.y
theorem exact_g (st : StepD) (m : Int) : (m * st.sn + st.p * st.sd) * st.g = m * st.num + st.p * st.d := by
  rw [Int.add_mul, Int.mul_assoc, Int.mul_assoc, st.gn, st.gd]
theorem wide_g (st : StepD) : st.sd * st.u * st.g = st.d * st.u := by rw [Int.mul_right_comm, st.gd]
theorem sc_le {a b g : Int} (hg : 0 < g) (h : a ≤ b) : a * g ≤ b * g := Int.mul_le_mul_of_nonneg_right h (Int.le_of_lt hg)
theorem sc_lt {a b g : Int} (hg : 0 < g) (h : a < b) : a * g < b * g := Int.mul_lt_mul_of_pos_right h hg
theorem su_pos {st : StepD} (h : st.Ok) : 0 < st.sd * st.u := Int.mul_pos (by have := h.sd0; omega) (by have := h.u0; omega)
theorem ediv_is {a c z : Int} (hc : 0 < c) (h1 : z * c ≤ a) (h2 : a < z * c + c) : a / c = z := by
  have l1 : z ≤ a / c := (Int.le_ediv_iff_mul_le hc).mpr h1
  have l2 : a / c < z + 1 := (Int.ediv_lt_iff_lt_mul hc).mpr (by rw [Int.add_mul, Int.one_mul]; exact h2)
  omega
noncomputable def StepD.wide (st : StepD) : Int := st.d * st.u
noncomputable def StepD.exact (st : StepD) (m : Int) : Int := m * st.num + st.p * st.d
noncomputable def StepD.many (st : StepD) (m : Int) : Int :=
  if st.y = "up" ∧ 0 < st.exact m - st.exact m / st.wide * st.wide then st.exact m / st.wide + 1
  else if st.y = "near" ∧ st.wide ≤ 2 * (st.exact m - st.exact m / st.wide * st.wide) then st.exact m / st.wide + 1 else st.exact m / st.wide
theorem StepD.Ok.wide0 {st : StepD} (h : st.Ok) : 0 < st.wide := Int.mul_pos (by have := h.d0; omega) (by have := h.u0; omega)
theorem StepD.Ok.wide1 {st : StepD} (h : st.Ok) : st.wide ≤ 10000 := by
  have h1 : st.d * st.u ≤ st.d * 100 := Int.mul_le_mul_of_nonneg_left h.u1 (by have := h.d0; omega)
  have := h.d1
  unfold StepD.wide; omega
theorem StepD.Ok.y_up {st : StepD} (h : st.y = "up") : ¬ st.y = "down" ∧ ¬ st.y = "near" := by rw [h]; decide
theorem StepD.Ok.y_near {st : StepD} (h : st.y = "near") : ¬ st.y = "down" ∧ ¬ st.y = "up" := by rw [h]; decide
theorem StepD.Ok.y_down {st : StepD} (h : st.y = "down") : ¬ st.y = "up" ∧ ¬ st.y = "near" := by rw [h]; decide
theorem after_many {st : StepD} (h : st.Ok) (m : Int) : afterI st m = st.many m * st.u := by
  have hB := su_pos h
  have hg := h.g0
  have hE : st.exact m = (m * st.sn + st.p * st.sd) * st.g := (exact_g st m).symm
  have hW : st.wide = st.sd * st.u * st.g := (wide_g st).symm
  generalize hX : m * st.sn + st.p * st.sd = X at hE
  have eA : afterI st m = roundI X st.sd st.u st.y := by unfold afterI; rw [hX]
  rw [eA]
  generalize hb : st.sd * st.u = B at hB hW
  have hq : st.exact m / st.wide = X / B := by rw [hE, hW]; exact Int.mul_ediv_mul_of_pos_left X B hg
  have hl : st.exact m - st.exact m / st.wide * st.wide = (X - X / B * B) * st.g := by
    rw [hq, hE, hW, Int.sub_mul, Int.mul_assoc (X / B)]
  have f := fl (x := X) hB
  rw [Int.mul_comm B] at f
  unfold StepD.many roundI
  rw [hl, hq, hb, hW]
  generalize hqq : X / B = q at f
  rcases h.y with y | y | y
  · obtain ⟨n1, n2⟩ := StepD.Ok.y_down y
    rw [if_pos y, if_neg (fun z => n1 z.1), if_neg (fun z => n2 z.1)]
  · obtain ⟨n1, n2⟩ := StepD.Ok.y_up y
    rw [if_neg n1, if_pos y]
    by_cases c : 0 < X - q * B
    · have c' : 0 < (X - q * B) * st.g := Int.mul_pos c hg
      rw [if_pos ⟨y, c'⟩, ediv_is (z := q + 1) hB (by rw [Int.add_mul]; omega) (by rw [Int.add_mul]; omega)]
    · have c' : ¬ 0 < (X - q * B) * st.g := by
        have : X - q * B = 0 := by omega
        rw [this, Int.zero_mul]; decide
      rw [if_neg (fun z => c' z.2), if_neg (fun z => n2 z.1), ediv_is (z := q) hB (by omega) (by omega)]
  · obtain ⟨n1, n2⟩ := StepD.Ok.y_near y
    rw [if_neg n1, if_neg n2, if_neg (fun z => n2 z.1)]
    have hB2 : 0 < 2 * B := by omega
    have e2 : ∀ z : Int, z * (2 * B) = 2 * (z * B) := fun z => by rw [← Int.mul_assoc, Int.mul_comm z 2, Int.mul_assoc]
    by_cases c : B ≤ 2 * (X - q * B)
    · have c' : B * st.g ≤ 2 * ((X - q * B) * st.g) := by rw [← Int.mul_assoc]; exact sc_le hg c
      rw [if_pos ⟨y, c'⟩, ediv_is (z := q + 1) hB2 (by rw [e2, Int.add_mul]; omega) (by rw [e2, Int.add_mul]; omega)]
    · have c' : ¬ B * st.g ≤ 2 * ((X - q * B) * st.g) := by
        rw [← Int.mul_assoc]
        have := sc_lt hg (Int.not_le.mp c)
        omega
      rw [if_neg (fun z => c' z.2), ediv_is (z := q) hB2 (by rw [e2]; omega) (by rw [e2]; omega)]
noncomputable def StepD.cg (st : StepD) : Int := ((Int.gcd st.num st.wide : Nat) : Int)
noncomputable def StepD.cyc (st : StepD) : Int := st.wide / st.cg
noncomputable def StepD.kk (st : StepD) : Int := st.num / st.cg
theorem StepD.Ok.cg0 {st : StepD} (h : st.Ok) : 0 < st.cg := gcd_pos h.wide0
theorem StepD.Ok.cyc0 {st : StepD} (h : st.Ok) : 1 ≤ st.cyc := low_pos' h.wide0
theorem StepD.Ok.cyc1 {st : StepD} (h : st.Ok) : st.cyc ≤ 10000 := Int.le_trans (div_le' (Int.le_of_lt h.wide0) h.cg0) h.wide1
theorem StepD.Ok.kk0 {st : StepD} (h : st.Ok) : 1 ≤ st.kk := low_pos (by have := h.num0; omega) h.wide0
theorem StepD.Ok.cyc_num {st : StepD} (h : st.Ok) : st.cyc * st.num = st.wide * st.kk := by
  have e := low_cross (x := st.num) (y := st.wide) (g := st.cg) rfl h.cg0
  show st.wide / st.cg * st.num = st.wide * (st.num / st.cg)
  rw [Int.mul_comm, ← e, Int.mul_comm]
theorem StepD.Ok.many_cyc {st : StepD} (h : st.Ok) (m : Int) : st.many (m + st.cyc) = st.many m + st.kk := by
  have hW := h.wide0
  have e : st.exact (m + st.cyc) = st.exact m + st.wide * st.kk := by
    unfold StepD.exact; rw [Int.add_mul, h.cyc_num]; omega
  have eq : st.exact (m + st.cyc) / st.wide = st.exact m / st.wide + st.kk := by
    rw [e, Int.add_mul_ediv_left _ _ (by omega)]
  have el : st.exact (m + st.cyc) - st.exact (m + st.cyc) / st.wide * st.wide = st.exact m - st.exact m / st.wide * st.wide := by
    rw [eq, e, Int.add_mul, Int.mul_comm st.kk]; omega
  unfold StepD.many
  rw [el, eq]
  split
  · omega
  · split <;> omega
structure Chn (K : PySem.W.Frag) (H : Hp) (l : Addr) (as : List Addr) (sts : List StepD) : Prop where
  lst : SqL K H l (as.map V.ref)
  len : as.length = sts.length
  item : ∀ (i : Nat) (a : Addr) (st : StepD), as[i]? = some a → sts[i]? = some st → SqT K H a st.vals
  ok : ∀ st ∈ sts, st.Ok
theorem Chn.same {K : PySem.W.Frag} {H H' : Hp} {l : Addr} {as : List Addr} {sts : List StepD} (c : Chn K H l as sts) (s : Same H H') : Chn K H' l as sts :=
  ⟨s.seq c.lst, c.len, fun i a st h1 h2 => s.seqT (c.item i a st h1 h2), c.ok⟩
theorem Chn.get {K : PySem.W.Frag} {H : Hp} {l : Addr} {as : List Addr} {sts : List StepD} (c : Chn K H l as sts) {i : Nat} {x : V} (h : (as.map V.ref)[i]? = some x) :
    ∃ a st, x = .ref a ∧ as[i]? = some a ∧ sts[i]? = some st ∧ SqT K H a st.vals ∧ st.Ok := by
  rw [List.getElem?_map] at h
  cases e : as[i]? with
  | none => rw [e] at h; cases h
  | some a =>
    rw [e] at h
    have hx : x = .ref a := (Option.some.inj h).symm
    have hi : i < sts.length := by rw [← c.len]; exact (List.getElem?_eq_some_iff.mp e).1
    have es : sts[i]? = some sts[i] := List.getElem?_eq_getElem hi
    exact ⟨a, sts[i], hx, rfl, es, c.item i a _ e es, c.ok _ (List.getElem_mem hi)⟩
theorem Chn.nth {K : PySem.W.Frag} {H : Hp} {l : Addr} {as : List Addr} {sts : List StepD} (c : Chn K H l as sts) {i : Nat} (hi : i < sts.length) :
    ∃ a, atI (as.map V.ref) (0 + (i : Int)) = some (.ref a) ∧ SqT K H a sts[i].vals := by
  have hi' : i < as.length := by rw [c.len]; exact hi
  refine ⟨as[i], ?_, c.item i _ _ (List.getElem?_eq_getElem hi') (List.getElem?_eq_getElem hi)⟩
  rw [Int.zero_add]
  exact atI_nat (by rw [List.getElem?_map, List.getElem?_eq_getElem hi']; rfl)
theorem take_snoc {α : Type} {l : List α} {i : Nat} {x : α} (h : l[i]? = some x) : l.take (i + 1) = l.take i ++ [x] := by
  obtain ⟨hi, e⟩ := List.getElem?_eq_some_iff.mp h
  rw [← e, List.take_append_getElem hi]
theorem SqT.updL {K : PySem.W.Frag} {H : Hp} {a p : Addr} {xs ys : List V} {o : HO} (h : SqT K H a xs) (hp : H p = some (.lst ys)) : SqT K (upd H p o) a xs := by
  rcases h with (h | ⟨o', h⟩) | h
  · exact .inl (.inl (by rw [upd_ne (ne_of h hp (by intro z; cases z))]; exact h))
  · exact .inl (.inr ⟨o', by rw [upd_ne (ne_of h hp (by intro z; cases z))]; exact h⟩)
  · exact .inr h
noncomputable def prodI (sts : List StepD) : Int := sts.foldl (fun z st => z * st.cyc) 1
theorem prodI_snoc (sts : List StepD) (st : StepD) : prodI (sts ++ [st]) = prodI sts * st.cyc := by
  unfold prodI; rw [List.foldl_append]; rfl
noncomputable def endI (sts : List StepD) (m : Int) : Int := sts.foldl (fun z st => st.many z * st.u) m
theorem endI_snoc (sts : List StepD) (st : StepD) (m : Int) : endI (sts ++ [st]) m = st.many (endI sts m) * st.u := by
  unfold endI; rw [List.foldl_append]; rfl
theorem Same.drop {H H0 H1 : Hp} {p : Addr} {o : HO} (h : Same H H0) (hn : H p = none) (e : H1 = upd H0 p o) : Same H H1 := fun b u q => by
  rw [e, upd_ne (ne_of_none q hn)]; exact h b u q
theorem Chn.copy {K : PySem.W.Frag} {H H' : Hp} {l p : Addr} {as : List Addr} {sts : List StepD} (c : Chn K H l as sts) (s : Same H H') (f : H' p = some (.lst (as.map V.ref))) : Chn K H' p as sts :=
  ⟨SqL.of f, c.len, fun i a st h1 h2 => s.seqT (c.item i a st h1 h2), c.ok⟩
noncomputable def lineStep (z : Int × Int) (st : StepD) : Int × Int := (z.1 * st.num + st.p * z.2 * st.d, z.2 * st.d)
noncomputable def lineI (sts : List StepD) (m : Int) : Int × Int := sts.foldl lineStep (m, 1)
theorem lineI_snoc (sts : List StepD) (st : StepD) (m : Int) : lineI (sts ++ [st]) m = lineStep (lineI sts m) st := by
  unfold lineI; rw [List.foldl_append]; rfl
theorem Chn.one {K : PySem.W.Frag} {H : Hp} {l a : Addr} {st : StepD} (f : H l = some (.lst [V.ref a])) (t : SqT K H a st.vals) (o : st.Ok) : Chn K H l [a] [st] := by
  refine ⟨SqL.of f, rfl, fun i b st' h1 h2 => ?_, fun st' h => ?_⟩
  · cases i with
    | zero =>
      have e1 : a = b := Option.some.inj h1
      have e2 : st = st' := Option.some.inj h2
      subst e1 e2; exact t
    | succ i => simp at h1
  · rw [List.mem_singleton.mp h]; exact o
structure IsCyc (sts : List StepD) (c r : Int) : Prop where
  c0 : 1 ≤ c
  r0 : 1 ≤ r
  per : ∀ p, 0 ≤ p → endI sts (p + c) = endI sts p + r
  least : ∀ c' r', 1 ≤ c' → c' < c → ¬ ∀ p, 0 ≤ p → endI sts (p + c') = endI sts p + r'
noncomputable def FlatAt (K : PySem.W.Frag) (H : Hp) (x : Addr) (c r : Int) (es : List Int) : Prop :=
  ∃ dx fs p, H x = some (.ins (clsAt K "Flat") dx fs) ∧ fs.lookup ("cycle" : Str) = some (.int c) ∧ fs.lookup ("rise" : Str) = some (.int r) ∧ fs.lookup ("ends" : Str) = some (.ref p) ∧ fs.lookup ("end" : Str) = none ∧ SqT K H p (es.map V.int)
theorem FlatAt.same {K : PySem.W.Frag} {H H' : Hp} {x : Addr} {c r : Int} {es : List Int} (h : FlatAt K H x c r es) (s : Same H H') : FlatAt K H' x c r es :=
  let ⟨dx, fs, p, h1, h2, h3, h4, h5, h6⟩ := h; ⟨dx, fs, p, s _ _ h1, h2, h3, h4, h5, s.seqT h6⟩
theorem FlatAt.updL {K : PySem.W.Frag} {H : Hp} {x p : Addr} {c r : Int} {es : List Int} {ys : List V} {o : HO} (h : FlatAt K H x c r es) (hp : H p = some (.lst ys)) : FlatAt K (upd H p o) x c r es :=
  let ⟨dx, fs, q, h1, h2, h3, h4, h5, h6⟩ := h; ⟨dx, fs, q, by rw [upd_ne (ne_of h1 hp (by intro z; cases z))]; exact h1, h2, h3, h4, h5, h6.updL hp⟩
theorem FlatAt.ins {K : PySem.W.Frag} {H : Hp} {x : Addr} {c r : Int} {es : List Int} (h : FlatAt K H x c r es) : ∃ dx fs, H x = some (.ins (clsAt K "Flat") dx fs) ∧ fs.lookup ("end" : Str) = none :=
  let ⟨dx, fs, _, h1, _, _, _, h5, _⟩ := h; ⟨dx, fs, h1, h5⟩
theorem prodI_pos : ∀ {sts : List StepD}, (∀ st ∈ sts, st.Ok) → 1 ≤ prodI sts := by
  have key : ∀ (n : Nat) (sts : List StepD), sts.length = n → (∀ st ∈ sts, st.Ok) → 1 ≤ prodI sts := by
    intro n
    induction n with
    | zero => intro sts h _; rw [List.length_eq_zero_iff.mp h]; exact Int.le_refl _
    | succ n ih =>
      intro sts h ok
      rcases List.eq_nil_or_concat sts with e | ⟨t, st, e⟩
      · subst e; simp at h
      · subst e
        rw [List.concat_eq_append] at h ok ⊢
        rw [List.length_append] at h
        have h' : t.length = n := by have : [st].length = 1 := rfl; omega
        have a := ih t h' (fun s hs => ok s (List.mem_append_left _ hs))
        have o := (ok st (List.mem_append_right _ (List.mem_singleton.mpr rfl))).cyc0
        rw [prodI_snoc]
        have := Int.mul_le_mul a o (by decide) (by omega)
        omega
  intro sts ok
  exact key _ sts rfl ok
section
variable {X : Cx}
theorem call_list_ofO : CallR X (.type "list") (fun xs H Q => ∃ p ys, xs = [.ref p] ∧ (SqL X.K H p ys ∨ SqT X.K H p ys) ∧ ∀ l H', H l = none → Same H H' → H' l = some (.lst ys) → Q (.ref l) H') := by
  intro pins s σ H xs us Q I r ⟨p, ys, e, hq, q⟩
  exact call_list_of pins s σ H xs us Q I r ⟨p, ys, e, hq, fun l hl => q l _ hl (same_new hl _) upd_same⟩
theorem op_catO : OpR X (binaryOp .Add) (fun x y H Q => ∃ l b xs zs, x = .ref l ∧ y = .ref b ∧ H l = some (.lst xs) ∧ H b = some (.lst zs) ∧ xs.length + zs.length ≤ sizeLine ∧ ∀ p H', H p = none → Same H H' → H' p = some (.lst (xs ++ zs)) → Q (.ref p) H') := by
  intro pins s σ H x y v u Q I rx ry ⟨l, b, xs, zs, e1, e2, h1, h2, h3, q⟩
  exact op_cat pins s σ H x y v u Q I rx ry ⟨l, b, xs, zs, e1, e2, h1, h2, h3, fun p hp => q p _ hp (same_new hp _) upd_same⟩
end
theorem snoc_ind {P : List StepD → Prop} (h0 : P []) (h1 : ∀ t st, P t → P (t ++ [st])) : ∀ sts, P sts := by
  have key : ∀ (n : Nat) (sts : List StepD), sts.length = n → P sts := by
    intro n
    induction n with
    | zero => intro sts h; rw [List.length_eq_zero_iff.mp h]; exact h0
    | succ n ih =>
      intro sts h
      rcases List.eq_nil_or_concat sts with e | ⟨t, st, e⟩
      · subst e; simp at h
      · subst e
        rw [List.concat_eq_append] at h ⊢
        rw [List.length_append] at h
        have h' : t.length = n := by have : [st].length = 1 := rfl; omega
        exact h1 t st (ih t h')
  exact fun sts => key _ sts rfl
theorem per_n {f : Int → Int} {c r : Int} (hc : 0 ≤ c) (h : ∀ p, 0 ≤ p → f (p + c) = f p + r) : ∀ (n : Nat) (p : Int), 0 ≤ p → f (p + n * c) = f p + n * r := by
  intro n
  induction n with
  | zero => intro p _; simp
  | succ n ih =>
    intro p hp
    have hn : 0 ≤ (n : Int) * c := Int.mul_nonneg (Int.natCast_nonneg n) hc
    have e1 : p + ((n + 1 : Nat) : Int) * c = (p + n * c) + c := by rw [Int.natCast_succ, Int.add_mul, Int.one_mul]; omega
    rw [e1, h _ (by omega), ih p hp, Int.natCast_succ, Int.add_mul, Int.one_mul]; omega
theorem per_z {f : Int → Int} {c r n : Int} (hc : 0 ≤ c) (h : ∀ p, 0 ≤ p → f (p + c) = f p + r) (hn : 0 ≤ n) {p : Int} (hp : 0 ≤ p) : f (p + n * c) = f p + n * r := by
  obtain ⟨k, rfl⟩ := Int.eq_ofNat_of_zero_le hn
  exact per_n hc h k p hp
theorem StepD.Ok.many_n {st : StepD} (h : st.Ok) (n : Nat) (m : Int) : st.many (m + n * st.cyc) = st.many m + n * st.kk := by
  induction n with
  | zero => simp
  | succ n ih =>
    have e1 : m + ((n + 1 : Nat) : Int) * st.cyc = (m + n * st.cyc) + st.cyc := by rw [Int.natCast_succ, Int.add_mul, Int.one_mul]; omega
    rw [e1, h.many_cyc, ih, Int.natCast_succ, Int.add_mul, Int.one_mul]; omega
noncomputable def riseI (sts : List StepD) : Int := sts.foldl (fun z st => z * (st.kk * st.u)) 1
theorem riseI_snoc (sts : List StepD) (st : StepD) : riseI (sts ++ [st]) = riseI sts * (st.kk * st.u) := by
  unfold riseI; rw [List.foldl_append]; rfl
theorem riseI_pos : ∀ (sts : List StepD), (∀ st ∈ sts, st.Ok) → 1 ≤ riseI sts := by
  refine snoc_ind (fun _ => Int.le_refl _) fun t st ih ok => ?_
  have o := ok st (List.mem_append_right _ (List.mem_singleton.mpr rfl))
  have a := ih fun s hs => ok s (List.mem_append_left _ hs)
  have b := Int.mul_le_mul o.kk0 o.u0 (by decide) (by have := o.kk0; omega)
  rw [riseI_snoc]
  have := Int.mul_le_mul a b (by decide) (by omega)
  omega
theorem end_prod : ∀ (sts : List StepD), (∀ st ∈ sts, st.Ok) → ∀ p, 0 ≤ p → endI sts (p + prodI sts) = endI sts p + riseI sts := by
  refine snoc_ind (fun _ p _ => rfl) fun t st ih ok p hp => ?_
  have o := ok st (List.mem_append_right _ (List.mem_singleton.mpr rfl))
  have okt : ∀ s ∈ t, s.Ok := fun s hs => ok s (List.mem_append_left _ hs)
  have a := prodI_pos okt
  have b := riseI_pos t okt
  have c0 := o.cyc0
  rw [prodI_snoc, riseI_snoc, endI_snoc, endI_snoc, Int.mul_comm (prodI t), per_z (by omega) (ih okt) (by omega) hp]
  obtain ⟨k, hk⟩ := Int.eq_ofNat_of_zero_le (show 0 ≤ riseI t by omega)
  rw [Int.mul_comm st.cyc, hk, o.many_n, Int.add_mul, Int.mul_assoc]
theorem cyc_dvd {sts : List StepD} {c r : Int} (h : IsCyc sts c r) : ∀ {c' r' : Int}, 0 ≤ c' → (∀ p, 0 ≤ p → endI sts (p + c') = endI sts p + r') → c ∣ c' := by
  have key : ∀ (n : Nat) (c' r' : Int), c' = n → (∀ p, 0 ≤ p → endI sts (p + c') = endI sts p + r') → c ∣ c' := by
    intro n
    induction n using Nat.strongRecOn with
    | ind n ih =>
      intro c' r' e hp
      by_cases z : c' = 0
      · rw [z]; exact Int.dvd_zero c
      · by_cases hlt : c' < c
        · exact (h.least c' r' (by omega) hlt hp).elim
        · have c0 := h.c0
          have d : c ∣ c' - c := by
            refine ih (c' - c).toNat (by omega) (c' - c) (r' - r) (by omega) fun p pp => ?_
            have a := hp p pp
            have b := h.per (p + (c' - c)) (by omega)
            rw [show p + (c' - c) + c = p + c' by omega] at b
            omega
          have := Int.dvd_add d (Int.dvd_refl c)
          rwa [show c' - c + c = c' by omega] at this
  intro c' r' h0 hp
  exact key c'.toNat c' r' (by omega) hp
theorem rise_pos {sts : List StepD} {c r : Int} (ok : ∀ st ∈ sts, st.Ok) (c0 : 1 ≤ c) (per : ∀ p, 0 ≤ p → endI sts (p + c) = endI sts p + r) (hd : c ∣ prodI sts) : 1 ≤ r := by
  obtain ⟨k, hk⟩ := hd
  have a := prodI_pos ok
  have b := riseI_pos sts ok
  have k0 : 0 ≤ k := by
    refine Int.not_lt.mp fun z => ?_
    have := Int.mul_le_mul_of_nonneg_left (show k ≤ -1 by omega) (show 0 ≤ c by omega)
    omega
  have e1 := per_z (p := 0) (by omega) per k0 (Int.le_refl 0)
  have e2 := end_prod sts ok 0 (Int.le_refl 0)
  rw [Int.mul_comm k c, ← hk, e2] at e1
  have e3 : riseI sts = k * r := by omega
  refine Int.not_lt.mp fun z => ?_
  have := Int.mul_le_mul_of_nonneg_left (show r ≤ 0 by omega) k0
  omega
end L2
namespace L2
open PySem PySem.Spec PyProof.Rows
section
variable {X : Cx} {tg : Expr}
end
section
variable {X : Cx}
theorem sl_listO : SlR X (fun x lo hi H Q => ∃ a xs, x = .ref a ∧ SqL X.K H a xs ∧ ∀ p H', H p = none → Same H H' → H' p = some (.lst (cutV xs lo hi)) → Q (.ref p) H') := by
  intro pins s σ H x v vl vu lo hi sl Q I rx hs pl pu h
  obtain ⟨a, xs, e, hq, q⟩ := h
  exact sl_list pins s σ H x v vl vu lo hi sl Q I rx hs pl pu ⟨a, xs, e, hq, fun p hp => q p _ hp (same_new hp _) upd_same⟩
end
theorem cut_take {α : Type} (f : α → V) (as : List α) (k : Nat) : cutV (as.map f) none (some (k : Int)) = (as.take k).map f := by
  unfold cutV
  rw [HT.sIx_none, HT.sIx_nat, List.drop_zero, Nat.sub_zero, List.map_take]
  rcases Nat.le_total k (as.map f).length with h | h
  · rw [Nat.min_eq_left h]
  · rw [Nat.min_eq_right h, List.take_length, List.take_of_length_le h]
theorem Chn.take {K : PySem.W.Frag} {H H' : Hp} {l p : Addr} {as : List Addr} {sts : List StepD} (c : Chn K H l as sts) (k : Nat) (s : Same H H') (f : H' p = some (.lst ((as.take k).map V.ref))) : Chn K H' p (as.take k) (sts.take k) := by
  refine ⟨SqL.of f, by rw [List.length_take, List.length_take, c.len], fun i a st h1 h2 => ?_, fun st h => c.ok st (List.mem_of_mem_take h)⟩
  have hi : i < k := by
    have := (List.getElem?_eq_some_iff.mp h1).1
    rw [List.length_take] at this; omega
  rw [List.getElem?_take_of_lt hi] at h1 h2
  exact s.seqT (c.item i a st h1 h2)
section
variable {X : Cx}
end
theorem IsCyc.same {sts : List StepD} {c r c' r' : Int} (h : IsCyc sts c r) (h' : IsCyc sts c' r') : c = c' ∧ r = r' := by
  have e : c = c' := by
    rcases Int.lt_trichotomy c c' with l | l | l
    · exact (h'.least c r h.c0 l h.per).elim
    · exact l
    · exact (h.least c' r' h'.c0 l h'.per).elim
  subst e
  have a := h.per 0 (Int.le_refl 0)
  have b := h'.per 0 (Int.le_refl 0)
  exact ⟨rfl, by omega⟩
section
variable {X : Cx}
end
theorem Chn.upd {K : PySem.W.Frag} {H : Hp} {l p : Addr} {as : List Addr} {sts : List StepD} {ys : List V} {o : HO} (c : Chn K H l as sts) (hp : H p = some (.lst ys)) (f : (upd H p o) l = some (.lst (as.map V.ref))) : Chn K (upd H p o) l as sts :=
  ⟨SqL.of f, c.len, fun i a st h1 h2 => (c.item i a st h1 h2).updL hp, c.ok⟩
end L2
set_option Elab.async false
set_option linter.all false
set_option maxRecDepth 100000
set_option maxHeartbeats 4000000
namespace L2
open PySem PySem.Spec PyProof.Rows
structure LineL (sts : List StepD) (m a b : Int) : Prop where
  a0 : 0 ≤ a
  b0 : 1 ≤ b
  b1 : b ≤ (lineI sts m).2
  e : a * (lineI sts m).2 = (lineI sts m).1 * b
theorem LineL.nil {m : Int} (h : 0 ≤ m) : LineL [] m m 1 := ⟨h, by decide, Int.le_refl _, rfl⟩
end L2
set_option Elab.async false
set_option linter.all false
set_option maxRecDepth 100000
set_option maxHeartbeats 4000000
namespace L2
open PySem PySem.Spec PyProof.Rows
noncomputable def relS (scope sc : Scope) : Scope :=
  { scope with names := scope.names.map fun (n, k) => if (k == .free && sc.kind == .function && sc.names.lookup n == some .cell) then (n, .cell) else (n, k) }
structure CompN (X : Cx) (scope : Scope) (x : Str) (fs : List Str) (fr : List Nat) : Prop where
  kind : scope.kind = .function
  cell : ∀ y ∈ scope.names, y.2 ≠ .cell
  names : ∀ y ∈ scope.names, y.2 = .local → scope.names.lookup y.1 = some .local
  lx : scope.names.lookup x = some .local
  nd : (x :: fs).Nodup
  len : fs.length = fr.length
  frees : ∀ n, (n, NameKind.free) ∈ scope.names → X.env.scope.names.lookup n = some .cell
  fin : ∀ y ∈ fs, (y, NameKind.free) ∈ scope.names ∧ (relS scope X.env.scope).names.lookup y = some .cell
  cells : ∀ y, (relS scope X.env.scope).names.lookup y = some .cell ∨ (relS scope X.env.scope).names.lookup y = some .free → (y, NameKind.free) ∈ scope.names
  slot : ∀ (j k : Nat), fr[j]? = some k → X.N[k]? = fs[j]?
section
variable {X : Cx} {elt iter : Expr} {x : Str} {px pos : Pos} {scope : Scope} {fs : List Str} {fr : List Nat} {wi : TI} {te : TE}
end
structure CompS (N : List Str) (sc scope : Scope) (x : Str) (fs : List Str) (fr : List Nat) : Prop where
  kind : scope.kind = .function
  cell : ∀ y ∈ scope.names, y.2 ≠ .cell
  names : ∀ y ∈ scope.names, y.2 = .local → scope.names.lookup y.1 = some .local
  lx : scope.names.lookup x = some .local
  nd : (x :: fs).Nodup
  frees : ∀ y ∈ scope.names, y.2 = .free → sc.names.lookup y.1 = some .cell
  fin : ∀ y ∈ fs, (y, NameKind.free) ∈ scope.names ∧ (relS scope sc).names.lookup y = some .cell
  cells : ∀ y ∈ (relS scope sc).names, y.2 = .cell ∨ y.2 = .free → (y.1, NameKind.free) ∈ scope.names
  slot : fr.map (fun k => N[k]?) = fs.map some
theorem mem_of_lookup {α : Type} : ∀ {l : List (Str × α)} {y : Str} {k : α}, l.lookup y = some k → (y, k) ∈ l
  | (n, v) :: r, y, k, h => by
    by_cases e : y = n
    · subst e
      rw [List.lookup_cons_self] at h
      cases h; exact List.mem_cons_self
    · rw [List.lookup_cons, beq_eq_false_iff_ne.mpr e] at h
      exact List.mem_cons_of_mem _ (mem_of_lookup h)
theorem CompS.of {X : Cx} {N : List Str} {sc scope : Scope} {x : Str} {fs : List Str} {fr : List Nat} (c : CxIs X N sc) (h : CompS N sc scope x fs fr) : CompN X scope x fs fr := by
  have hl : fs.length = fr.length := by
    have := congrArg List.length h.slot
    rw [List.length_map, List.length_map] at this
    exact this.symm
  refine ⟨h.kind, h.cell, h.names, h.lx, h.nd, hl, fun n hn => by rw [c.s]; exact h.frees _ hn rfl, fun y hy => by rw [c.s]; exact h.fin y hy, fun y hy => ?_, fun j k e => ?_⟩
  · rw [c.s] at hy
    rcases hy with hy | hy
    · exact h.cells _ (mem_of_lookup hy) (.inl rfl)
    · exact h.cells _ (mem_of_lookup hy) (.inr rfl)
  · rw [c.n]
    have := congrArg (fun l => l[j]?) h.slot
    simp only [List.getElem?_map, e, Option.map_some] at this
    cases q : fs[j]? with
    | none => rw [q] at this; cases this
    | some y => rw [q] at this; simpa using this
noncomputable instance {N sc scope x fs fr} : Decidable (CompS N sc scope x fs fr) :=
  decidable_of_iff (scope.kind = .function ∧ (∀ y ∈ scope.names, y.2 ≠ .cell) ∧ (∀ y ∈ scope.names, y.2 = .local → scope.names.lookup y.1 = some .local) ∧ scope.names.lookup x = some .local ∧ (x :: fs).Nodup ∧ (∀ y ∈ scope.names, y.2 = .free → sc.names.lookup y.1 = some .cell) ∧
    (∀ y ∈ fs, (y, NameKind.free) ∈ scope.names ∧ (relS scope sc).names.lookup y = some .cell) ∧ (∀ y ∈ (relS scope sc).names, y.2 = .cell ∨ y.2 = .free → (y.1, NameKind.free) ∈ scope.names) ∧ fr.map (fun k => N[k]?) = fs.map some)
    ⟨fun ⟨a, b, c, d, e, f, g, h, i⟩ => ⟨a, b, c, d, e, f, g, h, i⟩, fun ⟨a, b, c, d, e, f, g, h, i⟩ => ⟨a, b, c, d, e, f, g, h, i⟩⟩
section
variable {X : Cx} {elt iter : Expr} {x : Str} {px pos : Pos} {scope sc : Scope} {N fs : List Str} {fr : List Nat} {wi : TI} {te : TE}
end
end L2
namespace L2
open PySem PySem.Spec PyProof.Rows
section
variable {X : Cx} {N : List Str} {sc : Scope} {pos : Pos} {i : Nat} {x : Str}
end
end L2
set_option Elab.async false
set_option linter.all false
set_option maxRecDepth 100000
set_option maxHeartbeats 4000000
namespace L2
open PySem PySem.Spec PyProof.Rows
noncomputable def Prm (p : Int) : Prop := 2 ≤ p ∧ ∀ d, 1 < d → d < p → ¬ d ∣ p
noncomputable def prodL : List Int → Int
  | [] => 1
  | p :: r => p * prodL r
theorem prodL_snoc : ∀ (l : List Int) (p : Int), prodL (l ++ [p]) = prodL l * p
  | [], p => by show p * 1 = 1 * p; omega
  | q :: r, p => by show q * prodL (r ++ [p]) = q * prodL r * p; rw [prodL_snoc r p, Int.mul_assoc]
theorem cop_dvd {q p r : Int} (e : Int.gcd q p = 1) (hd : q ∣ p * r) : q ∣ r := by
  have h1 : Nat.Coprime q.natAbs p.natAbs := e
  have h2 : q.natAbs ∣ p.natAbs * r.natAbs := by rw [← Int.natAbs_mul]; exact Int.natAbs_dvd_natAbs.mpr hd
  exact Int.natAbs_dvd_natAbs.mp (Nat.Coprime.dvd_of_dvd_mul_left h1 h2)
theorem prm_cop {p q r : Int} (hp : Prm p) (h : ¬ p ∣ q) (hd : q ∣ p * r) : q ∣ r := by
  refine cop_dvd ?_ hd
  have hg : 0 < Int.gcd q p := Int.gcd_pos_of_ne_zero_right q (by have := hp.1; omega)
  by_cases e : Int.gcd q p = 1
  · exact e
  · have h1 : ((Int.gcd q p : Nat) : Int) ∣ p := Int.gcd_dvd_right q p
    have h2 : ((Int.gcd q p : Nat) : Int) ∣ q := Int.gcd_dvd_left q p
    have h3 : ((Int.gcd q p : Nat) : Int) ≤ p := Int.le_of_dvd (by have := hp.1; omega) h1
    by_cases e2 : ((Int.gcd q p : Nat) : Int) = p
    · rw [e2] at h2; exact (h h2).elim
    · exact (hp.2 _ (by omega) (by omega) h1).elim
noncomputable def Per (sts : List StepD) (c r : Int) : Prop := ∀ p, 0 ≤ p → endI sts (p + c) = endI sts p + r
theorem dvd_least {sts : List StepD} {c r : Int} (c0 : 1 ≤ c) (hp : Per sts c r) (hl : ∀ c' r', 1 ≤ c' → c' < c → ¬ Per sts c' r') : ∀ {c' r' : Int}, 0 ≤ c' → Per sts c' r' → c ∣ c' := by
  have key2 : ∀ (m : Nat) (c' r' : Int), c' = m → Per sts c' r' → c ∣ c' := by
    intro m
    induction m using Nat.strongRecOn with
    | ind m ihm =>
      intro c' r' e' hp'
      by_cases z : c' = 0
      · rw [z]; exact Int.dvd_zero c
      · by_cases hlt : c' < c
        · exact (hl c' r' (by omega) hlt hp').elim
        · have d : c ∣ c' - c := by
            refine ihm (c' - c).toNat (by omega) (c' - c) (r' - r) (by omega) fun p pp => ?_
            have a := hp' p pp
            have b := hp (p + (c' - c)) (by omega)
            rw [show p + (c' - c) + c = p + c' by omega] at b
            omega
          have := Int.dvd_add d (Int.dvd_refl c)
          rwa [show c' - c + c = c' by omega] at this
  intro c' r' h0 hp'
  exact key2 c'.toNat c' r' (by omega) hp'
theorem least_ex {sts : List StepD} (ok : ∀ st ∈ sts, st.Ok) : ∃ c r, IsCyc sts c r := by
  have pr := prodI_pos ok
  have key : ∀ (n : Nat) (c r : Int), c = n → 1 ≤ c → Per sts c r → ∃ c r, IsCyc sts c r := by
    intro n
    induction n using Nat.strongRecOn with
    | ind n ih =>
      intro c r e c0 hp
      by_cases hex : ∃ c' r', 1 ≤ c' ∧ c' < c ∧ Per sts c' r'
      · obtain ⟨c', r', a, b, d⟩ := hex
        exact ih c'.toNat (by omega) c' r' (by omega) a d
      · have hl : ∀ c' r', 1 ≤ c' → c' < c → ¬ Per sts c' r' := fun c' r' a b d => hex ⟨c', r', a, b, d⟩
        exact ⟨c, r, c0, rise_pos ok c0 hp (dvd_least c0 hp hl (by omega) (end_prod sts ok)), hp, hl⟩
  exact key (prodI sts).toNat (prodI sts) (riseI sts) (by omega) (by omega) (end_prod sts ok)
theorem Per.inj {sts : List StepD} {c r r' : Int} (h : Per sts c r) (h' : Per sts c r') : r = r' := by
  have a := h 0 (Int.le_refl 0)
  have b := h' 0 (Int.le_refl 0)
  omega
theorem Per.mul {sts : List StepD} {c r n : Int} (h : Per sts c r) (hc : 0 ≤ c) (hn : 0 ≤ n) : Per sts (n * c) (n * r) := fun p hp => per_z hc h hn hp
structure Down (sts : List StepD) (c r : Int) (rest : List Int) : Prop where
  c0 : 1 ≤ c
  per : Per sts c r
  left : prodL rest ∣ c
  way : ∃ L rL k, IsCyc sts L rL ∧ c = k * L ∧ k ∣ prodL rest
theorem Down.start {sts : List StepD} {c r : Int} {l : List Int} (ok : ∀ st ∈ sts, st.Ok) (c0 : 1 ≤ c) (per : Per sts c r) (hl : prodL l = c) : Down sts c r l := by
  obtain ⟨L, rL, h⟩ := least_ex ok
  obtain ⟨k, hk⟩ := cyc_dvd h (show 0 ≤ c by omega) per
  exact ⟨c0, per, by rw [hl]; exact Int.dvd_refl c, L, rL, k, h, by rw [hk, Int.mul_comm], by rw [hl, hk]; exact Int.dvd_mul_left L k⟩
theorem Down.fin {sts : List StepD} {c r : Int} (d : Down sts c r []) : IsCyc sts c r := by
  obtain ⟨L, rL, k, h, e, hk⟩ := d.way
  have c0 := d.c0
  have L0 := h.c0
  have hk1 : k = 1 := by
    have hk' : k ∣ 1 := hk
    have : 0 < k := by
      refine Int.not_le.mp fun z => ?_
      have := Int.mul_le_mul_of_nonneg_right z (show 0 ≤ L by omega)
      omega
    exact Int.eq_one_of_dvd_one (by omega) hk'
  subst hk1
  rw [Int.one_mul] at e
  subst e
  rw [Per.inj d.per h.per]
  exact h
theorem Down.no {sts : List StepD} {c r p : Int} {l : List Int} (d : Down sts c r (p :: l)) (hp : Prm p) (hn : ∀ c' r', c = p * c' → r = p * r' → ¬ Per sts c' r') : Down sts c r l := by
  obtain ⟨L, rL, k, h, e, hk⟩ := d.way
  have c0 := d.c0
  have L0 := h.c0
  refine ⟨c0, d.per, Int.dvd_trans (Int.dvd_mul_left _ _) d.left, L, rL, k, h, e, prm_cop hp (fun hd => ?_) hk⟩
  obtain ⟨k', ek⟩ := hd
  have p0 := hp.1
  have k0 : 0 ≤ k' := by
    refine Int.not_lt.mp fun z => ?_
    have h1 := Int.mul_le_mul_of_nonneg_left (show k' ≤ -1 by omega) (show 0 ≤ p by omega)
    rw [← ek] at h1
    have := Int.mul_le_mul_of_nonneg_right (show k ≤ 0 by omega) (show 0 ≤ L by omega)
    omega
  have per' : Per sts (k' * L) (k' * rL) := Per.mul h.per (by omega) k0
  refine hn (k' * L) (k' * rL) (by rw [e, ek, Int.mul_assoc]) ?_ per'
  have hper : Per sts c (p * (k' * rL)) := by
    have := Per.mul per' (Int.mul_nonneg k0 (by omega)) (show 0 ≤ p by omega)
    rwa [show p * (k' * L) = c by rw [e, ek, Int.mul_assoc]] at this
  exact Per.inj d.per hper
theorem many_nn {st : StepD} (o : st.Ok) {m : Int} (hm : 0 ≤ m) : 0 ≤ st.many m := by
  have e0 : 0 ≤ st.exact m := by
    unfold StepD.exact
    have h1 := Int.mul_nonneg hm (show 0 ≤ st.num by have := o.num0; omega)
    have h2 := Int.mul_nonneg o.p0 (show 0 ≤ st.d by have := o.d0; omega)
    omega
  have d0 := Int.ediv_nonneg e0 (Int.le_of_lt o.wide0)
  unfold StepD.many
  split
  · omega
  · split <;> omega
theorem endI_nn : ∀ (sts : List StepD), (∀ st ∈ sts, st.Ok) → ∀ p, 0 ≤ p → 0 ≤ endI sts p := by
  refine snoc_ind (fun _ p hp => hp) fun t st ih ok p hp => ?_
  have o := ok st (List.mem_append_right _ (List.mem_singleton.mpr rfl))
  rw [endI_snoc]
  exact Int.mul_nonneg (many_nn o (ih (fun s hs => ok s (List.mem_append_left _ hs)) p hp)) (by have := o.u0; omega)
structure Fac (n0 n q : Int) (fs : List Int) : Prop where
  n1 : 1 ≤ n
  q2 : 2 ≤ q
  prm : ∀ p ∈ fs, Prm p
  prod : prodL fs * n = n0
  none : ∀ d, 1 < d → d < q → ¬ d ∣ n
  len : (fs.length : Int) ≤ n0 - n
theorem Fac.start {n : Int} (h : 1 ≤ n) : Fac n n 2 [] := ⟨h, by omega, fun p hp => (List.not_mem_nil hp).elim, by show 1 * n = n; omega, fun d h1 h2 => by omega, by show ((0 : Nat) : Int) ≤ n - n; omega⟩
theorem Fac.last {n0 n q : Int} {fs : List Int} (f : Fac n0 n q fs) (h : n < q * q) (hn : 1 < n) : Prm n ∧ prodL (fs ++ [n]) = n0 := by
  refine ⟨⟨by omega, fun d h1 h2 hd => ?_⟩, by rw [prodL_snoc]; exact f.prod⟩
  have q2 := f.q2
  by_cases hlt : d < q
  · exact f.none d h1 hlt hd
  · obtain ⟨e, he⟩ := hd
    have e1 : 1 < e := by
      refine Int.not_le.mp fun z => ?_
      have := Int.mul_le_mul_of_nonneg_left z (show 0 ≤ d by omega)
      omega
    have e2 : e < q := by
      refine Int.not_le.mp fun z => ?_
      have := Int.mul_le_mul (show q ≤ d by omega) z (by omega) (by omega)
      omega
    exact f.none e e1 e2 ⟨d, by rw [he, Int.mul_comm]⟩
theorem Fac.one {n0 n q : Int} {fs : List Int} (f : Fac n0 n q fs) (hn : ¬ 1 < n) : prodL fs = n0 := by
  have n1 := f.n1
  have e : n = 1 := by omega
  have := f.prod
  rw [e, Int.mul_one] at this
  exact this
section
variable {X : Cx}
end
end L2
set_option Elab.async false
set_option linter.all false
set_option maxRecDepth 100000
set_option maxHeartbeats 4000000
namespace L2
open PySem PySem.Spec PyProof.Rows
section
variable {X : Cx}
end
section
variable {X : Cx} {tg : Expr}
end
section
variable {X : Cx} {a b : Expr} {rest : List Expr} {ta tb : TE} {pos : Pos}
end
noncomputable abbrev TJ := Str → St → Hp → VK → Prop
section
variable {X : Cx} {e v1 v2 : Expr} {es : List Expr} {te : TE} {t : TJ} {pos : Pos}
end
section
variable {env : Env} {es : List Expr}
end
end L2
set_option Elab.async false
set_option linter.all false
set_option maxRecDepth 100000
set_option maxHeartbeats 4000000
namespace L2
open PySem PySem.Spec PyProof.Rows PySem.NumText
noncomputable def numS (v : Int) : Str := Str.ofString (toString v)
noncomputable instance (l : List Nat) : Decidable (AllDigits l) := inferInstanceAs (Decidable (∀ c ∈ l, 48 ≤ c ∧ c ≤ 57))
noncomputable def numT (t : Str) (low high : Int) : Option Int :=
  if t = "" ∨ (numS high).length < t.length then none
  else if ¬ AllDigits t.cps.toList then none
  else if t.cps.toList.head? = some 48 ∧ ¬ t = "0" then none
  else if ((digitsVal t.cps.toList : Nat) : Int) < low ∨ high < ((digitsVal t.cps.toList : Nat) : Int) then none else some ((digitsVal t.cps.toList : Nat) : Int)
noncomputable def fracT (t w : Str) : Option (Int × Int) :=
  match (Txt.split t "/").map fun p => numT p 1 100 with
  | [some n, some d] => if w = "off" ∧ d ≤ n then none else some (n, d)
  | _ => none
noncomputable def partW (ws : List Str) (k : Nat) (al : List Str) : Option Str := if k + 1 < ws.length ∧ ws.getD k "" ∈ al then some (ws.getD k "") else none
noncomputable def sA (ws : List Str) : Option Str → Option (Int × Int) × Nat
  | none => (some (1, 1), 0)
  | some x => (fracT (ws.getD 1 "") x, 2)
noncomputable def sB (ws : List Str) (k : Nat) : Option Str → Option Int × Nat
  | none => (some 0, k)
  | some _ => (numT (ws.getD (k + 1) "") 0 (10 ^ 30), k + 2)
noncomputable def sC (ws : List Str) (k : Nat) : Option Str → Option Int × Nat
  | none => (some 1, k)
  | some _ => (numT (ws.getD (k + 1) "") 1 100, k + 2)
noncomputable def sD (w y : Option Str) : Option (Int × Int) → Option Int → Option Int → Option StepD
  | some (n, d), some pn, some un => some ⟨w.getD "times", n, d, pn, y.getD "near", un⟩
  | _, _, _ => none
noncomputable def wordsA : List Str := ["times", "add", "off"]
noncomputable def waysA : List Str := ["down", "up", "near"]
noncomputable def stepE (ws : List Str) (w y : Option Str) (f : Option (Int × Int)) (p u : Option Int) (k : Nat) : Option StepD := if k < ws.length then none else sD w y f p u
noncomputable def stepV (ws : List Str) (w pl y : Option Str) (f : Option (Int × Int) × Nat) (p u : Option Int × Nat) (r : Option StepD) : Prop :=
  w = partW ws 0 wordsA ∧ f = sA ws w ∧ pl = partW ws f.2 ["plus"] ∧ p = sB ws f.2 pl ∧ y = partW ws p.2 waysA ∧ u = sC ws p.2 y ∧ r = stepE ws w y f.1 p.1 u.1 u.2
noncomputable def stepW (ws : List Str) : Option StepD :=
  let w := partW ws 0 wordsA
  let f := sA ws w
  let p := sB ws f.2 (partW ws f.2 ["plus"])
  let y := partW ws p.2 waysA
  let u := sC ws p.2 y
  stepE ws w y f.1 p.1 u.1 u.2
theorem stepV.eq {ws : List Str} {w pl y : Option Str} {f : Option (Int × Int) × Nat} {p u : Option Int × Nat} {r : Option StepD} (h : stepV ws w pl y f p u r) : stepW ws = r := by
  obtain ⟨e1, e2, e3, e4, e5, e6, e7⟩ := h
  unfold stepW
  rw [e7, e6, e5, e4, e3, e2, e1]
section
variable {X : Cx}
end
section
variable {X : Cx} {K : PySem.W.Frag}
end
end L2
set_option Elab.async false
set_option linter.all false
set_option maxRecDepth 100000
set_option maxHeartbeats 4000000
namespace L2
open PySem PySem.Spec PyProof.Rows
theorem roundI_mono {x y den unit : Int} {way : Str} (h : x ≤ y) (hd : 0 < den * unit) (hu : 0 ≤ unit) : roundI x den unit way ≤ roundI y den unit way := by
  unfold roundI
  split
  · exact Int.mul_le_mul_of_nonneg_right (Int.ediv_le_ediv hd h) hu
  · split
    · exact Int.mul_le_mul_of_nonneg_right (Int.ediv_le_ediv hd (by omega)) hu
    · exact Int.mul_le_mul_of_nonneg_right (Int.ediv_le_ediv (by omega) (by omega)) hu
theorem afterI_mono {st : StepD} (o : st.Ok) {x y : Int} (h : x ≤ y) : afterI st x ≤ afterI st y := by
  unfold afterI
  refine roundI_mono ?_ (su_pos o) (by have := o.u0; omega)
  have := Int.mul_le_mul_of_nonneg_right h (show 0 ≤ st.sn by have := o.sn0; omega)
  omega
theorem endI_mono : ∀ (sts : List StepD), (∀ st ∈ sts, st.Ok) → ∀ x y, x ≤ y → endI sts x ≤ endI sts y := by
  refine snoc_ind (fun _ x y h => h) fun t st ih ok x y h => ?_
  have o := ok st (List.mem_append_right _ (List.mem_singleton.mpr rfl))
  rw [endI_snoc, endI_snoc, ← after_many o, ← after_many o]
  exact afterI_mono o (ih (fun s hs => ok s (List.mem_append_left _ hs)) x y h)
structure Low (sts : List StepD) (e m : Int) : Prop where
  m0 : 0 ≤ m
  ge : e ≤ endI sts m
  lt : ∀ p, 0 ≤ p → p < m → endI sts p < e
theorem Low.le {sts : List StepD} {e m p : Int} (h : Low sts e m) (hp : 0 ≤ p) (he : e ≤ endI sts p) : m ≤ p := Int.not_lt.mp fun z => by
  have := h.lt p hp z
  omega
structure From (sts : List StepD) (e first last : Int) : Prop where
  a : Low sts e first
  he : endI sts first = e
  b : Low sts (e + 1) (last + 1)
theorem From.le {sts : List StepD} {e f l : Int} (h : From sts e f l) : f ≤ l := by
  have h1 := h.a.le h.b.m0 (by have := h.b.ge; omega)
  have h2 : f ≠ l + 1 := fun z => by
    have := h.b.ge
    have := h.he
    rw [z] at this
    omega
  omega
theorem From.has {sts : List StepD} {e f l p : Int} (h : From sts e f l) (ok : ∀ st ∈ sts, st.Ok) (hp : 0 ≤ p) (he : endI sts p = e) : f ≤ p ∧ p ≤ l := by
  refine ⟨h.a.le hp (by omega), Int.not_lt.mp fun z => ?_⟩
  have a := endI_mono sts ok (l + 1) p (by omega)
  have := h.b.ge
  omega
section
variable {X : Cx} {e : Expr} {es : List Expr} {t : TG} {u : TGs} {pos : Pos}
end
noncomputable def Part (s1 s2 : List StepD) : Option Int → Prop
  | none => ∀ p, 0 ≤ p → endI s1 p = endI s2 p
  | some m => 0 ≤ m ∧ ¬ endI s1 m = endI s2 m ∧ ∀ p, 0 ≤ p → p < m → endI s1 p = endI s2 p
theorem Part.symm {s1 s2 : List StepD} {r : Option Int} (h : Part s1 s2 r) : Part s2 s1 r := by
  cases r with
  | none => exact fun p hp => (h p hp).symm
  | some m => exact ⟨h.1, fun z => h.2.1 z.symm, fun p a b => (h.2.2 p a b).symm⟩
structure SameStep (a b : StepD) : Prop where
  num : b.num = a.num
  d : b.d = a.d
  p : b.p = a.p
  y : b.y = a.y
  u : b.u = a.u
theorem SameStep.many {a b : StepD} (h : SameStep a b) (m : Int) : b.many m = a.many m := by
  unfold StepD.many StepD.exact StepD.wide
  rw [h.num, h.d, h.p, h.y, h.u]
theorem SameStep.cyc {a b : StepD} (h : SameStep a b) : b.cyc = a.cyc := by
  unfold StepD.cyc StepD.cg StepD.wide
  rw [h.num, h.d, h.u]
theorem chn_new {K : PySem.W.Frag} {H : Hp} {l : Addr} {as : List Addr} {sts : List StepD} (f : H l = some (.lst (as.map V.ref))) (hl : as.length = sts.length) (h : ∀ (i : Nat) a st, as[i]? = some a → sts[i]? = some st → SqT K H a st.vals ∧ st.Ok) : Chn K H l as sts := by
  refine ⟨SqL.of f, hl, fun i a st h1 h2 => (h i a st h1 h2).1, fun st hs => ?_⟩
  obtain ⟨i, hi⟩ := List.getElem?_of_mem hs
  have hi' := (List.getElem?_eq_some_iff.mp hi).1
  exact (h i (as[i]'(by omega)) st (List.getElem?_eq_getElem (by omega)) hi).2
theorem cut_drop {α : Type} (f : α → V) (as : List α) (k : Nat) (h : k ≤ as.length) : cutV (as.map f) (some (k : Int)) none = (as.drop k).map f := by
  unfold cutV
  rw [HT.sIx_none, HT.sIx_nat, List.length_map, Nat.min_eq_left h, ← List.map_drop, List.take_of_length_le (by rw [List.length_map, List.length_drop]; omega)]
theorem prd_app {α β : Type} {F : α → β → Prop} : ∀ {a b : List α} {c d : List β}, Paired F a c → Paired F b d → Paired F (a ++ b) (c ++ d)
  | _, _, _, _, .nil, s => s
  | _, _, _, _, .cons r t, s => .cons r (prd_app t s)
theorem prd_take {α β : Type} {F : α → β → Prop} : ∀ {a : List α} {c : List β} (n : Nat), Paired F a c → Paired F (a.take n) (c.take n)
  | _, _, 0, _ => .nil
  | _, _, _ + 1, .nil => .nil
  | _, _, n + 1, .cons r t => .cons r (prd_take n t)
theorem prd_drop {α β : Type} {F : α → β → Prop} : ∀ {a : List α} {c : List β} (n : Nat), Paired F a c → Paired F (a.drop n) (c.drop n)
  | _, _, 0, r => r
  | _, _, _ + 1, .nil => .nil
  | _, _, n + 1, .cons _ t => prd_drop n t
theorem prd_get {α β : Type} {F : α → β → Prop} : ∀ {a : List α} {c : List β} {i : Nat} {x : α} {y : β}, Paired F a c → a[i]? = some x → c[i]? = some y → F x y
  | _, _, _, _, _, .nil, e, _ => by simp at e
  | _, _, 0, _, _, .cons r _, e, e' => by simp at e e'; subst e e'; exact r
  | _, _, i + 1, x, y, .cons _ t, e, e' => prd_get (i := i) t (by simpa using e) (by simpa using e')
theorem prd_of {α β : Type} {F : α → β → Prop} : ∀ {a : List α} {c : List β}, a.length = c.length → (∀ (i : Nat) x y, a[i]? = some x → c[i]? = some y → F x y) → Paired F a c
  | [], [], _, _ => .nil
  | x :: a, y :: c, h, f => .cons (f 0 x y rfl rfl) (prd_of (by simpa using h) fun i x' y' h1 h2 => f (i + 1) x' y' (by simpa using h1) (by simpa using h2))
noncomputable def StepAt (K : PySem.W.Frag) (H : Hp) (a : Addr) (st : StepD) : Prop := SqT K H a st.vals ∧ st.Ok
theorem Chn.prd {K : PySem.W.Frag} {H : Hp} {l : Addr} {as : List Addr} {sts : List StepD} (c : Chn K H l as sts) : Paired (StepAt K H) as sts :=
  prd_of c.len fun i a st h1 h2 => ⟨c.item i a st h1 h2, c.ok st (List.mem_of_getElem? h2)⟩
theorem prd_same {K : PySem.W.Frag} {H H' : Hp} {as : List Addr} {sts : List StepD} (p : Paired (StepAt K H) as sts) (s : Same H H') : Paired (StepAt K H') as sts := Paired.mapP p fun _ _ h => ⟨s.seqT h.1, h.2⟩
theorem chn_prd {K : PySem.W.Frag} {H : Hp} {l : Addr} {as : List Addr} {sts : List StepD} (f : H l = some (.lst (as.map V.ref))) (p : Paired (StepAt K H) as sts) : Chn K H l as sts := by
  refine chn_new f (Paired.length p) fun i a st h1 h2 => ?_
  have h : StepAt K H a st := prd_get p h1 h2
  exact h
theorem Same.none {H H' : Hp} {p : Addr} (s : Same H H') (h : H' p = none) : H p = none := by
  cases z : H p with
  | none => rfl
  | some o => have := s _ _ z; rw [h] at this; cases this
theorem IsCyc.move {s1 s2 : List StepD} {c r : Int} (h : IsCyc s1 c r) (e : Part s1 s2 none) : IsCyc s2 c r := by
  have e' : ∀ p, 0 ≤ p → endI s1 p = endI s2 p := e
  have c0 := h.c0
  refine ⟨h.c0, h.r0, fun p hp => ?_, fun c' r' h1 h2 hp => h.least c' r' h1 h2 fun p p0 => ?_⟩
  · rw [← e' p hp, ← e' (p + c) (by omega)]; exact h.per p hp
  · rw [e' p p0, e' (p + c') (by omega)]; exact hp p p0
noncomputable def swapK {α : Type} (l : List α) (k : Nat) : List α := match l.drop (k - 1) with
  | x :: y :: r => l.take (k - 1) ++ y :: x :: r
  | _ => l
theorem swap_eq {α : Type} {l : List α} {k : Nat} (h1 : 1 ≤ k) (h2 : k < l.length) : swapK l k = (l.take (k - 1) ++ [l[k], l[k - 1]]) ++ l.drop (k + 1) := by
  have e1 : l.drop (k - 1) = l[k - 1] :: l[k] :: l.drop (k + 1) := by
    rw [List.drop_eq_getElem_cons (by omega)]
    congr 1
    have : k - 1 + 1 = k := by omega
    rw [this, List.drop_eq_getElem_cons h2]
  unfold swapK
  rw [e1]
  simp
theorem swap_len {α : Type} {l : List α} {k : Nat} (h1 : 1 ≤ k) (h2 : k < l.length) : (swapK l k).length = l.length := by
  rw [swap_eq h1 h2, List.length_append, List.length_append, List.length_take, List.length_drop]
  show min (k - 1) l.length + 2 + _ = _
  omega
theorem line_den : ∀ (sts : List StepD) (m : Int), (lineI sts m).2 = (lineI sts 0).2 := by
  intro sts m
  revert sts
  refine snoc_ind rfl fun t st ih => ?_
  rw [lineI_snoc, lineI_snoc]
  show (lineI t m).2 * st.d = (lineI t 0).2 * st.d
  rw [ih]
noncomputable def denI (sts : List StepD) : Int := (lineI sts 0).2
noncomputable def addI (sts : List StepD) (p : Int) : Int := endI sts p * (lineI sts p).2 - (lineI sts p).1
end L2
set_option Elab.async false
set_option linter.all false
set_option maxRecDepth 100000
set_option maxHeartbeats 4000000
namespace L2
open PySem PySem.Spec PyProof.Rows
section
variable {X : Cx}
end
end L2
set_option Elab.async false
set_option linter.all false
set_option maxRecDepth 100000
set_option maxHeartbeats 4000000
namespace L2
open PySem PySem.Spec PyProof.Rows
section
variable {prog : Program} {w : World} {A : Around} {E : Value → Shared → Prop} {s : Shared}
end
structure Next (sts : List StepD) (p m : Int) : Prop where
  lt : p < m
  ne : ¬ endI sts m = endI sts p
  same : ∀ j, p ≤ j → j < m → endI sts j = endI sts p
theorem Next.low {sts : List StepD} {p m : Int} (h : Next sts p m) (ok : ∀ st ∈ sts, st.Ok) (p0 : 0 ≤ p) : Low sts (endI sts p + 1) m := by
  have a := endI_mono sts ok p m (by have := h.lt; omega)
  have n := h.ne
  refine ⟨by have := h.lt; omega, by omega, fun j j0 j1 => ?_⟩
  by_cases hj : p ≤ j
  · rw [h.same j hj j1]; omega
  · have := endI_mono sts ok j p (by omega)
    omega
end L2
set_option Elab.async false
set_option linter.all false
set_option maxRecDepth 100000
set_option maxHeartbeats 4000000
namespace L2
open PySem PySem.Spec PyProof.Rows
section
variable {X : Cx} {tg : Expr}
end
noncomputable def Thr (sts : List StepD) (e m : Int) : Prop := 0 ≤ m ∧ ∀ q, 0 ≤ q → (e ≤ endI sts q ↔ m ≤ q)
theorem Thr.low {sts : List StepD} {e m : Int} (h : Thr sts e m) : Low sts e m :=
  ⟨h.1, (h.2 m h.1).mpr (Int.le_refl _), fun p p0 p1 => Int.not_le.mp fun z => by have := (h.2 p p0).mp z; omega⟩
theorem Thr.nil {e : Int} : Thr [] e (if 0 > e then 0 else e) := by
  refine ⟨by split <;> omega, fun q q0 => ?_⟩
  show e ≤ q ↔ _
  split <;> omega
theorem endI_cons (st : StepD) (t : List StepD) (m : Int) : endI (st :: t) m = endI t (st.many m * st.u) := rfl
theorem after_nn {st : StepD} (o : st.Ok) {m : Int} (h : 0 ≤ m) : 0 ≤ afterI st m := by
  rw [after_many o]
  have := endI_nn [st] (fun s hs => by rw [List.mem_singleton.mp hs]; exact o) m h
  exact this
theorem Thr.cons {st : StepD} {t : List StepD} {e m m' : Int} (o : st.Ok) (h : Thr t e m) (h0 : 0 ≤ m') (hs : ∀ q, 0 ≤ q → (m ≤ afterI st q ↔ m' ≤ q)) : Thr (st :: t) e m' := by
  refine ⟨h0, fun q q0 => ?_⟩
  rw [endI_cons, ← after_many o, h.2 _ (after_nn o q0)]
  exact hs q q0
structure LineT (sts : List StepD) (t mo d : Int) : Prop where
  t0 : 1 ≤ t
  t1 : t ≤ 200 ^ sts.length
  m0 : 0 ≤ mo
  d0 : 1 ≤ d
  d1 : d ≤ denI sts
  e : ∀ m, (m * t + mo) * (lineI sts m).2 = (lineI sts m).1 * d
theorem LineT.nil : LineT [] 1 0 1 := ⟨by decide, by decide, by decide, by decide, Int.le_refl _, fun m => by show (m * 1 + 0) * 1 = m * 1; omega⟩
theorem LineT.t6 {sts : List StepD} {t mo d : Int} (l : LineT sts t mo d) (h : sts.length ≤ 6) : t ≤ 10 ^ 14 := by
  have e : (200 : Int) ^ sts.length ≤ 200 ^ 6 := by
    have : (200 : Nat) ^ sts.length ≤ 200 ^ 6 := Nat.pow_le_pow_right (by decide) h
    exact_mod_cast this
  have := l.t1
  omega
noncomputable def adjI (sts : List StepD) (t mo d p : Int) : Int := endI sts p * d - (p * t + mo)
theorem LineT.adj {sts : List StepD} {t mo d : Int} (l : LineT sts t mo d) (p : Int) : adjI sts t mo d p * denI sts = addI sts p * d := by
  have e := l.e p
  unfold adjI addI
  rw [line_den sts p] at e ⊢
  show (endI sts p * d - (p * t + mo)) * (lineI sts 0).2 = _
  rw [Int.sub_mul, Int.sub_mul, e, Int.mul_right_comm]
theorem LineT.le {sts : List StepD} {t mo d : Int} (l : LineT sts t mo d) (D0 : 1 ≤ denI sts) {p q : Int} : adjI sts t mo d p ≤ adjI sts t mo d q ↔ addI sts p ≤ addI sts q := by
  have a := l.adj p
  have b := l.adj q
  have d0 := l.d0
  constructor
  · intro h
    have := Int.mul_le_mul_of_nonneg_right h (show 0 ≤ denI sts by omega)
    rw [a, b] at this
    exact Int.le_of_mul_le_mul_right this (by omega)
  · intro h
    have := Int.mul_le_mul_of_nonneg_right h (show 0 ≤ d by omega)
    rw [← a, ← b] at this
    exact Int.le_of_mul_le_mul_right this (by omega)
end L2
set_option Elab.async false
set_option linter.all false
set_option maxRecDepth 100000
set_option maxHeartbeats 4000000
namespace L2
open PySem PySem.Spec PyProof.Rows
section
variable {sts : List StepD} {c r n : Int}
end
end L2
set_option Elab.async false
set_option linter.all false
set_option maxRecDepth 100000
set_option maxHeartbeats 4000000
namespace L2
open PySem PySem.Spec PyProof.Rows
noncomputable def Trc (B h : Heap) (e : Addr) (cls : Value) (od : Option Addr) (fl : Value) : Prop :=
  ∃ oe vs T oT ts, h.get? e = some oe ∧ (oe.cls = cls ∧ oe.dict = od) ∧ oe.data = .fields vs ∧ vs[1]? = some (.ref T) ∧ B.get? T = none ∧ T ≠ e ∧ h.get? T = some oT ∧ oT.data = .fields ts ∧ ts[3]? = some fl
theorem dict_map (o : Obj) (f : Array Value → Array Value) : (o.mapFields f).dict = o.dict := by
  obtain ⟨c, d, dt, sl⟩ := o
  cases dt <;> rfl
section
variable {M : Model} {A : Around} {E : Value → Shared → Prop} {s : Shared} {B : Heap} {env : Env} {outer : List Env} {L e : Addr}
theorem note_tail {oe : Obj} {vs : Array Value} {head : Value} {had : Bool} {Q : Unit → Shared → Prop} (fr : A.frames = some (env :: outer)) (ff : s.heap.FunFrames B (env :: outer)) (lf : env.frame = some L)
    (ge : s.heap.get? e = some oe) (st : B.StaysIn s.heap) (nb : B.get? e = none) (de : oe.data = .fields vs) (two : 1 < vs.size)
    (k : ∀ g, B.StaysIn g → g.FunFrames B (env :: outer) → Trc B g e oe.cls oe.dict (rawInt L) → s.heap.UpToSlots g → Q () { s with heap := g }) :
    wpAny M A (do let x ← frameOf env; let pl ← entryPlaceOf L had; let y ← EntryCells.newEntry head x .none (rawInt L) .none pl; setField (.ref e) 1 y) Q E s := by
  have nfr : e ∉ (env :: outer).filterMap (·.frame) := fun z => by
    obtain ⟨_, ob, gb, nf⟩ := ff.mem z
    rw [ge] at gb
    cases gb
    exact nf vs de
  refine wpAny_bind (wpAny_frameOf_fun fr ff lf fun g1 so => wpAny_bind (wpAny_entryPlaceOf fun pl isp => ?_))
  unfold EntryCells.newEntry newFields
  refine wpAny_bind (wpAny_newObj_type ?_ (isp.sizeOk5 _ _ _ _ _))
  have e1 : g1.get? e = some oe := (so.2.1 e nfr).trans ge
  have st1 : B.StaysIn g1 := fun b o q => (so.2.1 b fun z => by rw [(ff.mem z).1] at q; cases q).trans (st b o q)
  generalize hob : ({ cls := .type "traceback", dict := none, data := .fields ([head, .ref L, .none, rawInt L, .none] ++ (if pl.isEmpty then List.replicate 6 Value.none else pl)).toArray } : Obj) = tb
  have tbd : tb.data = .fields ([head, .ref L, .none, rawInt L, .none] ++ (if pl.isEmpty then List.replicate 6 Value.none else pl)).toArray := by rw [← hob]
  have tbf : tb.isFreed = false := by rw [← hob]; rfl
  have e2 := Heap.get?_push_of_some (h := g1) tb e1
  refine wpAny_setField e2 de two (k _ ?_ ?_ ?_ ?_)
  all_goals have neT : g1.objs.size ≠ e := Nat.ne_of_gt (Heap.lt_size e1)
  all_goals have d3 := Obj.data_mapFields de (·.setIfInBounds 1 (Value.ref g1.objs.size))
  all_goals have keep : ∀ b o, b ≠ e → g1.get? b = some o → ((g1.push tb).update e (Obj.mapFields (·.setIfInBounds 1 (Value.ref g1.objs.size)))).get? b = some o := fun b o n q => by rw [Heap.get?_update_other _ _ (Ne.symm n)]; exact Heap.get?_push_of_some _ q
  all_goals have norec : ∀ b o, s.heap.get? b = some o → (∀ ws, o.data ≠ .fields ws) → b ≠ e := fun b o q n z => by rw [z, ge] at q; cases q; exact n vs de
  · exact fun b o q => keep b o (fun z => by rw [z, nb] at q; cases q) (st1 b o q)
  · refine ff.of_keeps fun b o q n => ?_
    obtain ⟨sl, q1⟩ := so.2.2 b o q
    exact ⟨_, keep b _ (norec b o q n) q1, rfl⟩
  · have e3 := Heap.get?_update_self (Obj.mapFields (·.setIfInBounds 1 (Value.ref g1.objs.size))) e2 (Obj.isFreed_of_fields d3)
    have t3 : ((g1.push tb).update e (Obj.mapFields (·.setIfInBounds 1 (Value.ref g1.objs.size)))).get? g1.objs.size = some tb := by rw [Heap.get?_update_other _ _ (Ne.symm neT)]; exact Heap.get?_push_size g1 tbf
    refine ⟨_, _, g1.objs.size, tb, _, e3, ⟨Obj.cls_mapFields _ _, dict_map _ _⟩, d3, by simp [two], st1.fresh, neT, t3, tbd, ?_⟩
    first
      | (simp; done)
      | (rcases isp with rfl | ⟨_, _, _, _, _, _, _, rfl⟩ <;> simp)
  · intro b o q n
    obtain ⟨sl, q1⟩ := so.2.2 b o q
    exact ⟨sl, keep b _ (norec b o q n) q1⟩
theorem note_first {oe : Obj} {vs : Array Value} {Q : Unit → Shared → Prop} (fr : A.frames = some (env :: outer)) (ff : s.heap.FunFrames B (env :: outer)) (lf : env.frame = some L)
    (ge : s.heap.get? e = some oe) (st : B.StaysIn s.heap) (nb : B.get? e = none) (de : oe.data = .fields vs) (v1 : vs[1]? = some .none)
    (k : ∀ g, B.StaysIn g → g.FunFrames B (env :: outer) → Trc B g e oe.cls oe.dict (rawInt L) → s.heap.UpToSlots g → Q () { s with heap := g }) : wpAny M A (noteFrame (.ref e) env) Q E s := by
  unfold noteFrame
  simp only [lf]
  refine wpAny_bind (wpAny_field ge de v1 ?_)
  rw [if_neg (by decide)]
  exact note_tail fr ff lf ge st nb de (Array.getElem?_eq_some_iff.mp v1).1 k
theorem note_next {cls : Value} {od : Option Addr} {Q : Unit → Shared → Prop} (fr : A.frames = some (env :: outer)) (ff : s.heap.FunFrames B (env :: outer)) (lf : env.frame = some L) (tr : Trc B s.heap e cls od .none)
    (st : B.StaysIn s.heap) (nb : B.get? e = none) (k : ∀ g, B.StaysIn g → g.FunFrames B (env :: outer) → Trc B g e cls od (rawInt L) → s.heap.UpToSlots g → Q () { s with heap := g }) : wpAny M A (noteFrame (.ref e) env) Q E s := by
  obtain ⟨oe, vs, T, oT, ts, ge, ⟨rfl, rfl⟩, de, v1, nT, neT, gT, dT, t3⟩ := tr
  unfold noteFrame
  simp only [lf]
  refine wpAny_bind (wpAny_field ge de v1 ?_)
  rw [if_pos (show (Value.ref T != Value.none) = true by simp)]
  refine wpAny_bind (wpAny_field gT dT t3 ?_)
  rw [if_neg (show ¬ (Value.none == rawInt L) = true by simp [rawInt])]
  refine wpAny_bind (wpAny_setField gT dT (Array.getElem?_eq_some_iff.mp t3).1 ?_)
  have oth : ∀ b, b ≠ T → (s.heap.update T (Obj.mapFields (·.setIfInBounds 3 Value.none))).get? b = s.heap.get? b := fun b n => Heap.get?_update_other _ _ (Ne.symm n)
  have nrec : ∀ b o, s.heap.get? b = some o → (∀ ws, o.data ≠ .fields ws) → b ≠ T := fun b o q n z => by rw [z, gT] at q; cases q; exact n ts dT
  refine note_tail (s := { s with heap := s.heap.update T (Obj.mapFields (·.setIfInBounds 3 Value.none)) }) fr (ff.of_keeps fun b o q n => ⟨o, (oth b (nrec b o q n)).trans q, rfl⟩) lf ((oth e (Ne.symm neT)).trans ge)
    (fun b o q => (oth b fun z => by rw [z, nT] at q; cases q).trans (st b o q)) nb de (Array.getElem?_eq_some_iff.mp v1).1 fun g h1 h2 h3 h4 => k g h1 h2 h3 fun b o q n => h4 b o ((oth b (nrec b o q n)).trans q) n
theorem flight_off {cls fl : Value} {od : Option Addr} {l : List Env} {Q : Unit → Shared → Prop} (st : B.StaysIn s.heap) (ff : s.heap.FunFrames B l) (tr : Trc B s.heap e cls od fl)
    (k : ∀ g, B.StaysIn g → g.FunFrames B l → Trc B g e cls od .none → s.heap.UpToSlots g → Q () { s with heap := g }) : wpAny M A (setFlight (.ref e) none) Q E s := by
  obtain ⟨oe, vs, T, oT, ts, ge, ce, de, v1, nT, neT, gT, dT, t3⟩ := tr
  have sz : 3 < ts.size := (Array.getElem?_eq_some_iff.mp t3).1
  unfold setFlight
  refine wpAny_bind (wpAny_field ge de v1 ?_)
  rw [if_pos (show (Value.ref T != Value.none) = true by simp)]
  have oth : ∀ b, b ≠ T → (s.heap.update T (Obj.mapFields (·.setIfInBounds 3 ((none : Option Addr).elim Value.none fun f => rawInt f)))).get? b = s.heap.get? b := fun b n => Heap.get?_update_other _ _ (Ne.symm n)
  have nrec : ∀ b o, s.heap.get? b = some o → (∀ ws, o.data ≠ .fields ws) → b ≠ T := fun b o q n z => by rw [z, gT] at q; cases q; exact n ts dT
  refine wpAny_setField gT dT sz (k _ (fun b o q => (oth b fun z => by rw [z, nT] at q; cases q).trans (st b o q)) (ff.of_keeps fun b o q n => ⟨o, (oth b (nrec b o q n)).trans q, rfl⟩) ?_ fun b o q n => ⟨o.slots, (oth b (nrec b o q n)).trans q⟩)
  exact ⟨oe, vs, T, _, _, (oth e (Ne.symm neT)).trans ge, ce, de, v1, nT, neT, Heap.get?_update_self _ gT (Obj.isFreed_of_fields (Obj.data_mapFields dT _)), Obj.data_mapFields dT _, by simp [sz]⟩
theorem leave_first {oe : Obj} {vs : Array Value} {Q : Unit → Shared → Prop} (fr : A.frames = some (env :: outer)) (ff : s.heap.FunFrames B (env :: outer)) (lf : env.frame = some L)
    (ge : s.heap.get? e = some oe) (st : B.StaysIn s.heap) (nb : B.get? e = none) (de : oe.data = .fields vs) (v1 : vs[1]? = some .none)
    (k : ∀ g, B.StaysIn g → g.FunFrames B (env :: outer) → Trc B g e oe.cls oe.dict .none → s.heap.UpToSlots g → Q () { s with heap := g }) : wpAny M A (leaving env (.ref e)) Q E s := by
  unfold leaving
  refine wpAny_bind (note_first fr ff lf ge st nb de v1 fun g h1 h2 h3 h4 => ?_)
  exact flight_off (s := { s with heap := g }) h1 h2 h3 fun g' k1 k2 k3 k4 => k g' k1 k2 k3 (h4.trans k4)
theorem leave_next {cls : Value} {od : Option Addr} {Q : Unit → Shared → Prop} (fr : A.frames = some (env :: outer)) (ff : s.heap.FunFrames B (env :: outer)) (lf : env.frame = some L) (tr : Trc B s.heap e cls od .none)
    (st : B.StaysIn s.heap) (nb : B.get? e = none) (k : ∀ g, B.StaysIn g → g.FunFrames B (env :: outer) → Trc B g e cls od .none → s.heap.UpToSlots g → Q () { s with heap := g }) : wpAny M A (leaving env (.ref e)) Q E s := by
  unfold leaving
  refine wpAny_bind (note_next fr ff lf tr st nb fun g h1 h2 h3 h4 => ?_)
  exact flight_off (s := { s with heap := g }) h1 h2 h3 fun g' k1 k2 k3 k4 => k g' k1 k2 k3 (h4.trans k4)
end
theorem objAt {P : Program} {w : World} {H : Hp} {h : Heap} {a : Addr} {o : HO} (x : ObjOk P w H h a o) : ∃ ob, h.get? a = some ob := by
  cases o with
  | lst xs => obtain ⟨_, _, _, _, e⟩ := x; exact ⟨_, e⟩
  | tup xs => obtain ⟨_, _, _, ob, e, _⟩ := x; exact ⟨_, e⟩
  | dK kvs => obtain ⟨_, _, _, _, ob, _, _, e, _⟩ := x; exact ⟨_, e⟩
  | dT kvs => obtain ⟨_, _, _, _, ob, _, _, e, _⟩ := x; exact ⟨_, e⟩
  | set S n => obtain ⟨ob, _, _, _, e, _⟩ := x; exact ⟨_, e⟩
  | ins C dx fs => obtain ⟨_, _, _, e, _⟩ := x; exact ⟨_, e⟩
  | own y => exact x
  | xd fs => obtain ⟨_, ⟨ob, _, _, e, _⟩, _⟩ := x; exact ⟨_, e⟩
  | rng lo hi => obtain ⟨_, _, _, e⟩ := x; exact ⟨_, e⟩
  | frz ob u => obtain ⟨e, _⟩ := x; exact ⟨_, e⟩
  | tbl ps => exact ⟨_, (show h.get? a = some _ from x)⟩
  | met f y => exact ⟨_, (show h.get? a = some _ from x)⟩
  | ext φ => obtain ⟨_, e, _⟩ := x; exact e
structure Thrown (P : Program) (w : World) (outer : List Env) (H H' : Hp) (s s' : Shared) (e : Addr) (cls : Value) (od : Option Addr) : Prop where
  os : s'.os = s.os
  bare : AllBare s'.gens
  un : Un (frs outer) [] H H' s.heap s'.heap
  hok : HOk P w H' s'.heap
  new : s.heap.get? e = none
  fly : ∃ B, B.StaysIn s'.heap ∧ B.get? e = none ∧ s'.heap.FunFrames B outer ∧ Trc B s'.heap e cls od .none ∧ ∀ b o, s'.heap.get? b = some o → (s.heap.get? b ≠ none ∧ b ∉ frs outer) ∨ H' b ≠ none → B.get? b = some o
noncomputable def CX1 (P : Program) (w : World) : CXT := fun outer H s E e s' => ∃ ea cls od H', e = .ref ea ∧ Thrown P w outer H H' s s' ea cls od ∧ E cls od H'
noncomputable def PassesS (CX : CXT) (X : Cx) (E : St → XK) : Prop := ∀ (pins : List (Addr × Obj)) (σ : St) (H : Hp) (s : Shared) (e : Value) (s' : Shared), Inv X pins σ H s → CX X.stack H s (E σ) e s' → X.xe e s'
theorem old_none {X : Cx} {pins : List (Addr × Obj)} {σ : St} {H : Hp} {s : Shared} (I : Inv X pins σ H s) {b : Addr} (hx : b ∉ X.ex) (h : s.heap.get? b = none) : X.s₀.heap.get? b = none := by
  cases q : X.s₀.heap.get? b with
  | none => rfl
  | some o =>
    obtain ⟨o', r⟩ := I.base.there b o q hx
    rw [h] at r
    cases r
theorem left_of {P : Program} {w : World} {X : Cx} {pins : List (Addr × Obj)} {σ : St} {H1 H' : Hp} {s1 s2 : Shared} {g B : Heap} {e : Addr} {cls : Value} {od : Option Addr} (I : Inv X pins σ H1 s1) (hx : X.ex = []) (hst : X.stack = X.env :: X.outer) (hfr : X.env.frame = some X.env.locals)
    (os : s2.os = s1.os) (bare : AllBare s2.gens) (un : Un (frs X.stack) [] H1 H' s1.heap s2.heap) (hok : HOk P w H' s2.heap) (new : X.s₀.heap.get? e = none)
    (nb : B.get? e = none) (cov : ∀ b o, s2.heap.get? b = some o → (X.s₀.heap.get? b ≠ none ∧ b ∉ frs X.stack) ∨ H' b ≠ none → B.get? b = some o)
    (st : B.StaysIn g) (ff : g.FunFrames B (X.env :: X.outer)) (tr : Trc B g e cls od .none) (up : s2.heap.UpToSlots g) : Thrown P w X.outer X.H₀ H' X.s₀ { s2 with heap := g } e cls od := by
  have ifs : ∀ b, b ∈ frs X.stack ↔ b = X.env.locals ∨ b ∈ frs X.outer := fun b => by
    rw [hst]
    unfold frs
    rw [List.filterMap_cons, hfr]
    exact List.mem_cons
  have nx : ∀ b : Addr, b ∉ X.ex := fun b => by rw [hx]; simp
  have u1 := I.base
  have neL : ∀ b o, X.s₀.heap.get? b = some o → b ≠ X.env.locals := fun b o q => Nat.ne_of_lt (Nat.lt_of_lt_of_le (Heap.lt_size q) I.ok.above)
  have old : ∀ b o, X.s₀.heap.get? b = some o → b ∉ frs X.outer → ∃ o2, s2.heap.get? b = some o2 ∧ B.get? b = some o2 ∧ g.get? b = some o2 := fun b o q n => by
    obtain ⟨o1, q1⟩ := u1.there b o q (nx b)
    obtain ⟨o2, q2⟩ := un.there b o1 q1 (by simp)
    have c := cov b o2 q2 (.inl ⟨by rw [q]; simp, fun z => ((ifs b).mp z).elim (neL b o q) n⟩)
    exact ⟨o2, q2, c, st b o2 c⟩
  have keepT : ∀ b o, H' b ≠ none → s2.heap.get? b = some o → g.get? b = some o := fun b o n q => st b o (cov b o q (.inr n))
  refine ⟨os.trans I.os, bare, ⟨fun b o q n nf _ => ?_, fun b o q n hf _ => ?_, fun b o q n _ => ?_, fun b o q _ => ?_, fun b xs q => un.tups b xs (u1.tups b xs q), fun b o u q => un.frzs b o u (u1.frzs b o u q), fun b ps q => ?_⟩, fun b u q => ?_, new, B, st, nb, ff.2.2, tr, fun b o q z => ?_⟩
  · have q1 := u1.keep b o q n nf (nx b)
    have q2 := un.keep b o q1 (u1.free b o q n (nx b)) (fun z => ((ifs b).mp z).elim (neL b o q) nf) (by simp)
    exact st b o (cov b o q2 (.inl ⟨by rw [q]; simp, fun z => ((ifs b).mp z).elim (neL b o q) nf⟩))
  · obtain ⟨sl, q1⟩ := u1.slot b o q n hf (nx b)
    obtain ⟨sl2, q2⟩ := un.any q1 (u1.free b o q n (nx b)) (by simp)
    obtain ⟨_, of, qf, nf⟩ := I.ok.funs.mem hf
    rw [q] at qf
    cases qf
    obtain ⟨sl3, q3⟩ := up b _ q2 nf
    exact ⟨sl3, q3⟩
  · obtain ⟨o1, q1⟩ := u1.there b o q (nx b)
    exact un.free b o1 q1 (u1.free b o q n (nx b)) (by simp)
  · by_cases hf : b ∈ frs X.outer
    · obtain ⟨_, of, qf, nf⟩ := I.ok.funs.mem hf
      rw [q] at qf
      cases qf
      have n : X.H₀ b = none := I.ok.frf b hf
      obtain ⟨sl, q1⟩ := u1.slot b o q n hf (nx b)
      obtain ⟨sl2, q2⟩ := un.any q1 (u1.free b o q n (nx b)) (by simp)
      obtain ⟨sl3, q3⟩ := up b _ q2 nf
      exact ⟨_, q3⟩
    · obtain ⟨o2, _, _, q3⟩ := old b o q hf
      exact ⟨o2, q3⟩
  · obtain ⟨m1, q1⟩ := u1.tbls b ps q
    obtain ⟨m2, q2⟩ := un.tbls b _ q1
    exact ⟨m1 ++ m2, by rw [q2, Array.append_assoc]⟩
  · refine (hok b u q).stay (fun c v hc r => keepT c v ?_ r) (fun _ r => r) fun _ _ r => r
    rcases hc with z | z
    · rw [z, q]; simp
    · rw [z]; simp
  · rcases z with ⟨z1, z2⟩ | z
    · cases q0 : X.s₀.heap.get? b with
      | none => exact (z1 q0).elim
      | some o0 =>
        obtain ⟨o2, _, c, q3⟩ := old b o0 q0 z2
        rw [q] at q3
        cases q3
        exact c
    · cases hb : H' b with
      | none => exact (z hb).elim
      | some u =>
        have lt := (hok b u hb).lt
        cases q2 : s2.heap.get? b with
        | none =>
          exfalso
          obtain ⟨o2, r2⟩ : ∃ o2, s2.heap.get? b = some o2 := objAt (hok b u hb)
          rw [q2] at r2
          cases r2
        | some o2 =>
          have c := cov b o2 q2 (.inr z)
          have := st b o2 c
          rw [q] at this
          cases this
          exact c
section
variable {P : Program} {w : World} {K : PySem.W.Frag} {mg : Str → Option Value} {base : Heap} {N : List Str} {qual : Str} {scope : Scope} {f : Addr} {cd : Value} {A : Around} {outer : List Env} {s : Shared} {H : Hp} {E : XK}
theorem passX : PassesS (CX1 P w) (cxOf (CX1 P w) P w K mg base N qual scope f cd A outer s H E) (fun _ => E) := by
  rintro pins σ H1 s1 e s2 I ⟨ea, cls, od, H', rfl, T, hE⟩
  obtain ⟨B, st, nb, ff, tr, cov⟩ := T.fly
  have hs := I.ok.frames
  refine leave_next (s := s2) (L := s.heap.objs.size) hs ff rfl tr st nb fun g h1 h2 h3 h4 => ?_
  refine ⟨ea, cls, od, H', rfl, left_of I rfl rfl rfl T.os T.bare T.un T.hok (old_none I (by simp [cxOf]) T.new) nb (fun b o q z => cov b o q ?_) h1 h2 h3 h4, hE⟩
  rcases z with ⟨z1, z2⟩ | z
  · refine .inl ⟨fun q1 => ?_, z2⟩
    cases q0 : s.heap.get? b with
    | none => exact z1 q0
    | some o0 =>
      obtain ⟨o1, r1⟩ := I.base.there b o0 q0 (by simp [cxOf])
      rw [q1] at r1
      cases r1
  · exact .inr z
noncomputable def RaiseOk (X : Cx) (E : XK) : Prop := ∀ (pins : List (Addr × Obj)) (σ : St) (H1 : Hp) (s1 : Shared) (ea : Addr) (oe : Obj) (vs : Array Value), Inv X pins σ H1 s1 → s1.heap.get? ea = some oe → oe.data = .fields vs → vs[1]? = some .none → X.s₀.heap.get? ea = none → H1 ea = none → E oe.cls oe.dict H1 → X.xe (.ref ea) s1
theorem raiseX : RaiseOk (cxOf (CX1 P w) P w K mg base N qual scope f cd A outer s H E) E := by
  intro pins σ H1 s1 ea oe vs I ge de v1 new fe hE
  have hs := I.ok.frames
  have stk := I.stack
  have hin : ∀ env ∈ (envOfC qual scope s.heap.objs.size f cd :: outer), ∀ a, env.frame = some a → a ∈ ea :: frs (envOfC qual scope s.heap.objs.size f cd :: outer) := fun env he a hf => List.mem_cons_of_mem _ (List.mem_filterMap.mpr ⟨env, he, hf⟩)
  have st : (PySem.W.hideAll s1.heap (ea :: frs (envOfC qual scope s.heap.objs.size f cd :: outer))).StaysIn s1.heap := fun b o q => PySem.W.of_hideAll _ q
  have nb : (PySem.W.hideAll s1.heap (ea :: frs (envOfC qual scope s.heap.objs.size f cd :: outer))).get? ea = none := PySem.W.hideAll_none _ (List.mem_cons_self ..)
  refine leave_first (s := s1) (L := s.heap.objs.size) hs (PySem.W.funFrames_hide stk hin) rfl ge st nb de v1 fun g h1 h2 h3 h4 => ?_
  refine ⟨ea, oe.cls, oe.dict, H1, rfl, left_of I rfl rfl rfl rfl I.bare Un.refl I.hok new nb (fun b o q z => PySem.W.hideAll_get _ q fun hm => ?_) h1 h2 h3 h4, hE⟩
  rcases List.mem_cons.mp hm with e | hm
  · subst e
    rcases z with ⟨z1, _⟩ | z
    · exact z1 new
    · exact z fe
  · rcases z with ⟨_, z2⟩ | z
    · exact z2 hm
    · exact z (I.stkFree b hm)
end
noncomputable def tCallS (sp : Sp) (dvs : List V) (E : St → XK) (t : TA) : TE := fun σ H Q => t σ H fun vs H1 => sp (vs ++ dvs) H1 Q (E σ)
section
variable {X : Cx} {CX : CXT} {k : Nat} {f C : Addr} {fd : FuncData} {ps : List Str} {sp : Sp} {dvs : List V} {ds : List Value} {E : St → XK} {x m : Str} {p pos apos : Pos} {e o : Expr} {es : List Expr} {ta : TE} {t : TA}
theorem run_fnS {pins : List (Addr × Obj)} {σ : St} {H : Hp} {s : Shared} {Q : VK} {us : List Value} {vs : List V} (F : FnOk X.prog X.w X.K X.mg X.base CX k f fd ps sp) (hr : Room k X.A) (hb : Binds X.K fd ps ds) (hd : Vals dvs ds) (hx : PassesS CX X E)
    (I : Inv X pins σ H s) (r : Vals vs us) (h : sp (vs ++ dvs) H Q (E σ)) : wpAny (model X.prog X.w) X.A (call (.ref f) us) (EP X pins σ Q) X.xe s := by
  have r2 : Vals (vs ++ dvs) (us ++ ds) := r.append hd
  have hl : (us ++ ds).length = ps.length := by rw [← r2.length]; exact F.len _ _ _ _ h
  refine wpAny_call (codeAny_mono (F.run X.A X.stack s H ⟨us, []⟩ (us ++ ds) (vs ++ dvs) Q (E σ) hr I.env0 (hb s us I.kIn hl) r2 h) fun r s' hq => ?_)
  cases r with
  | error e => exact hx pins σ H s e s' I hq
  | ok fl =>
    cases fl with
    | ret u => exact I.after hq
    | next => exact False.elim hq
    | brk => exact False.elim hq
    | cont => exact False.elim hq
theorem we_callS (F : FnOk X.prog X.w X.K X.mg X.base CX k f fd ps sp) (hr : Room k X.A) (hg : Gl X x) (hm : X.mg x = some (.ref f)) (hk : PySem.W.keepIn X.K (.ref f) = true) (hb : Binds X.K fd ps ds) (hd : Vals dvs ds) (hx : PassesS CX X E)
    (ha : WA X (e :: es) t) (hdb : (x == ("__debug__" : Str)) = false := by decide) (he : starEach (e :: es) X.env = (false, eval e X.env) :: starEach es X.env := by rfl) (hpl : (backTo pos (starEach es X.env)).any (·.1) = false := by rfl) :
    WE X (.Call (.Name x p) (e :: es) [] pos) (tCallS sp dvs E t) := by
  refine ⟨fun pins s σ H Q I h => ?_⟩
  refine wpAny_Call_Name_kw (ld_glob I hg hm ?_ hdb)
  refine PySem.W.callWith_K (h₀ := X.base) I.ok.mod.kin hk (thn (ha.h pos pins s σ H _ I h) fun us s1 ⟨vs, H1, I1, r, q⟩ => ⟨I1.kIn, ?_⟩) he hpl
  exact run_fnS F hr hb hd hx I1 r q
end
theorem pass1S {P : Program} {w : World} {X : Cx} : PassesS (CX1 P w) X (fun _ => E0) := fun _ _ _ _ _ _ _ ⟨_, _, _, _, _, _, h⟩ => h.elim
noncomputable def CalX (P : Program) (w : World) (K : PySem.W.Frag) (mg : Str → Option Value) (base : Heap) (x : Str) (k : Nat) (ps : List Str) (sp : Sp) : Prop :=
  ∃ (f : Addr) (fd : FuncData), FnOk P w K mg base (CX1 P w) k f fd ps sp ∧ Binds K fd ps [] ∧ PySem.W.keepIn K (.ref f) = true ∧ mg x = some (.ref f)
theorem Fun.okX {P : Program} {w : World} {K : PySem.W.Frag} {mg : Str → Option Value} {base : Heap} {x qual : Str} {st : Stmt} {f : Addr} {fd : FuncData} {N ps : List Str} {k : Nat} {sp : Sp} (F : Fun K x qual st f fd) (S : FnScope N ps (defScope st)) (len : ∀ vs H Q E, sp vs H Q E → vs.length = ps.length)
    (hbody : ∀ (cdv : Value) (A : Around) (outer : List Env) (s : Shared) (H : Hp) (vs : List V) (Q : VK) (E : XK), Room k (A.deeper (envOfC qual (defScope st) s.heap.objs.size f cdv)) → sp vs H Q E →
      ∃ t, PSs (cxOf (CX1 P w) P w K mg base N qual (defScope st) f cdv A outer s H E) (defBody st) t ∧ t { nx := fun _ H' => Q .non H', rt := Q } (start N vs) H) : FnOk P w K mg base (CX1 P w) (k + 1) f fd ps sp := by
  obtain ⟨oc, od, kV, doc, pm, an, cdv, ct, osl, rfl, lk, hcd⟩ := F.ex
  exact fn_of lk hcd S len fun A outer s H vs Q E hr hsp => hbody cdv A outer s H vs Q E hr hsp
theorem excIn_of {K : PySem.W.Frag} {h : Heap} {C : Addr} {bmB : List Value} {newId : String} (X : K.In h) (q : PySem.W.excIn K C bmB newId = true) :
    ∃ bm N nm qn bs hdct sn sub ab col dd k0 k1 k2 k3 k5 mN, h.get? C = some (excClassObj nm qn C N bs bm hdct sn sub ab col dd k0 k1 k2 k3 k5 newId) ∧ h.Ns N mN ∧ mN "__init__" = none ∧ OwnTail h bmB bm := by
  unfold PySem.W.excIn at q
  split at q
  · rename_i dd cd sl look
    split at q
    · rename_i C' bm k0 k1 k2 k3 n k5 hm hs
      simp only [Bool.and_eq_true, beq_iff_eq, Bool.not_eq_true'] at q
      obtain ⟨⟨⟨⟨⟨e1, e2⟩, hdel⟩, ht⟩, hok⟩, hni⟩ := q
      subst e1 e2
      obtain ⟨nm, bs, mro, ns, qn, hd, sn, sub, ab, col, del⟩ := cd
      dsimp only at hm hdel hok hni
      subst hm hdel
      have hsl : sl = #[k0, k1, k2, k3, some (.builtin n), k5] := by
        obtain ⟨l⟩ := sl
        simp only at hs
        rw [hs]
      subst hsl
      exact ⟨bm, ns, nm, qn, bs, hd, sn, sub, ab, col, dd, k0, k1, k2, k3, k5, _, X _ _ look, .of_isNs (PySem.W.isNs_of_in X hok), PySem.W.nsMap_none_of_in X hok hni, PySem.W.tail_of_in X ht⟩
    · cases q
  · cases q
noncomputable def tRaise (E : XK) (C : Addr) (t : TA) : TS := fun _ σ H => t σ H fun vs H1 => vs.length ≤ sizeLine ∧ E (.ref C) none H1
noncomputable abbrev veMro : List Value := [.type "ValueError", .type "Exception", .type "BaseException", .type "object"]
theorem ws_raise {X : Cx} {E : XK} {C : Addr} {x : Str} {e : Expr} {es : List Expr} {np cpos pos : Pos} {t : TA} (rx : RaiseOk X E) (hc : X.calm = true) (hxx : X.ex = []) (hg : Gl X x) (hm : X.mg x = some (.ref C)) (q : PySem.W.excIn X.K C veMro "ValueError.__new__" = true) (ha : WA X (e :: es) t)
    (hdb : (x == ("__debug__" : Str)) = false := by decide) (he : starEach (e :: es) X.env = (false, eval e X.env) :: starEach es X.env := by rfl) (hpl : (backTo cpos (starEach es X.env)).any (·.1) = false := by rfl) :
    WS X (.Raise (some (.Call (.Name x np) (e :: es) [] cpos)) none pos) (tRaise E C t) := by
  refine ⟨fun pins s σ H D I h => ?_⟩
  obtain ⟨tl, N, nm, qn, bs, hdct, sn, sub, ab, col, dd, k0, k1, k2, k3, k5, mN, gC, gN, ni, T⟩ := excIn_of I.ok.mod.kin q
  have FB := PySem.F.excBase_ValueError
  refine wpAny_Raise_call_subU (C := C) (nm := nm) (q := qn) (N := N) (bs := bs) (bm := tl) (hdct := hdct) (sn := sn) (sub := sub) (ab := ab) (col := col) (dd := dd) (k0 := k0) (k1 := k1) (k2 := k2) (k3 := k3) (k5 := k5)
    FB (by decide) FB (mN := mN) (T.hasType FB.hasBase) (I.ok.hd hc) (by rw [he]; show (false || (backTo cpos (starEach es X.env)).any (·.1)) = false; rw [hpl]; rfl) ni (ld_glob I hg hm ⟨rfl, ?_⟩ hdb)
  have hA := ha.h cpos pins s σ H _ I h
  rw [he] at hA ⊢
  refine Calls.evalArgs_plain (wpAny_mono hA (fun us s2 h2 => ?_) fun _ _ y => y)
  obtain ⟨vs, H2, I2, r, hl, hE⟩ := h2
  refine ⟨rfl, by rw [← r.length]; exact hl, I2.bk _ _ gC, gN.keeps I2.bk, T.keeps I2.bk, fun h' ea hm' => ?_⟩
  obtain ⟨ta, ge, _, _⟩ := hm'.there
  have I3 : Inv X pins σ H2 { s2 with heap := h' } := I2.kept (t' := s2.toks) hm'.keeps
  have fe : H2 ea = none := by
    cases z : H2 ea with
    | none => rfl
    | some u =>
      obtain ⟨ob, r2⟩ := objAt (I2.hok ea u z)
      rw [hm'.new] at r2
      cases r2
  exact rx pins σ H2 _ ea _ _ I3 ge rfl rfl (old_none I2 (by rw [hxx]; simp) hm'.new) fe hE
end L2
set_option Elab.async false
set_option linter.all false
set_option maxRecDepth 100000
set_option maxHeartbeats 4000000
namespace L2
open PySem PySem.Spec PyProof.Rows
noncomputable abbrev Cx.inExc (X : Cx) (ea : Addr) (oe : Obj) : Cx := { X with A := X.A.mark (some (.ref ea)), calm := false, pn := (ea, oe) :: X.pn, xe := fun _ _ => False }
noncomputable abbrev Cx.inTry (X : Cx) (E : Value → Shared → Prop) (pl : List (Addr × Obj)) : Cx := { X with xe := E, pn := X.pn ++ pl }
structure DefCx (X : Cx) : Prop where
  st : X.stack = X.env :: X.outer
  fr : X.env.frame = some X.env.locals
  ex : X.ex = []
section
variable {X : Cx} {pins pl : List (Addr × Obj)} {σ : St} {H H' : Hp} {s : Shared} {ea : Addr} {oe : Obj} {E : Value → Shared → Prop}
theorem Cx.Ok.toExc (ok : X.Ok) : (X.inExc ea oe).Ok :=
  ⟨ok.mod, ok.kind, ok.glob, ok.blt, ok.above, ok.inj, ok.has, ok.cab, fun z => (by cases z), ok.frames, ok.stk, ok.exf, ok.bs, ok.bsz, ok.noex, ok.exfs, ok.funs, ok.frf⟩
theorem Inv.toExc (I : Inv X pins σ H s) (g : s.heap.get? ea = some oe) (n : H ea = none) (nl : ea ≠ X.env.locals) (nf : ea ∉ X.fs) (nc : ∀ v, oe.data ≠ .cell v) : Inv (X.inExc ea oe) pins σ H s :=
  ⟨I.ok.toExc, I.os, I.bare, I.base, I.loc, I.cell, I.free, I.freeC, fun p hp => (List.mem_cons.mp hp).elim (fun z => by subst z; exact ⟨g, n, nl, nf, nc⟩) (I.pin p), I.hok, I.len⟩
theorem Inv.ofExc (I : Inv (X.inExc ea oe) pins σ H s) (ok : X.Ok) : Inv X pins σ H s :=
  ⟨ok, I.os, I.bare, I.base, I.loc, I.cell, I.free, I.freeC, fun p hp => I.pin p (List.mem_cons_of_mem _ hp), I.hok, I.len⟩
theorem SP.ofExc {D : Ends} {f : Flow} (h : SP (X.inExc ea oe) pins D f s) (ok : X.Ok) : SP X pins D f s := by
  cases f with
  | next => obtain ⟨σ', H', I, q⟩ := h; exact ⟨σ', H', I.ofExc ok, q⟩
  | brk => obtain ⟨σ', H', I, q⟩ := h; exact ⟨σ', H', I.ofExc ok, q⟩
  | cont => obtain ⟨σ', H', I, q⟩ := h; exact ⟨σ', H', I.ofExc ok, q⟩
  | ret u => obtain ⟨v, σ', H', I, r, q⟩ := h; exact ⟨v, σ', H', I.ofExc ok, r, q⟩
theorem Cx.Ok.toTry (ok : X.Ok) : (X.inTry E pl).Ok :=
  ⟨ok.mod, ok.kind, ok.glob, ok.blt, ok.above, ok.inj, ok.has, ok.cab, ok.hd, ok.frames, ok.stk, ok.exf, ok.bs, ok.bsz, ok.noex, ok.exfs, ok.funs, ok.frf⟩
theorem Cx.Ok.ofTry (ok : (X.inTry E pl).Ok) : X.Ok :=
  ⟨ok.mod, ok.kind, ok.glob, ok.blt, ok.above, ok.inj, ok.has, ok.cab, ok.hd, ok.frames, ok.stk, ok.exf, ok.bs, ok.bsz, ok.noex, ok.exfs, ok.funs, ok.frf⟩
theorem Inv.toTry (I : Inv X pins σ H s) : Inv (X.inTry E pins) [] σ H s :=
  ⟨I.ok.toTry, I.os, I.bare, I.base, I.loc, I.cell, I.free, I.freeC, fun p hp => I.pin p (by rw [List.append_nil] at hp; exact hp), I.hok, I.len⟩
theorem Inv.ofTry {q : List (Addr × Obj)} (I : Inv (X.inTry E pins) q σ H s) : Inv X pins σ H s :=
  ⟨I.ok.ofTry, I.os, I.bare, I.base, I.loc, I.cell, I.free, I.freeC, fun p hp => I.pin p (List.mem_append_left _ hp), I.hok, I.len⟩
theorem SP.ofTry {q : List (Addr × Obj)} {D : Ends} {f : Flow} (h : SP (X.inTry E pins) q D f s) : SP X pins D f s := by
  cases f with
  | next => obtain ⟨σ', H', I, q⟩ := h; exact ⟨σ', H', I.ofTry, q⟩
  | brk => obtain ⟨σ', H', I, q⟩ := h; exact ⟨σ', H', I.ofTry, q⟩
  | cont => obtain ⟨σ', H', I, q⟩ := h; exact ⟨σ', H', I.ofTry, q⟩
  | ret u => obtain ⟨v, σ', H', I, r, q⟩ := h; exact ⟨v, σ', H', I.ofTry, r, q⟩
theorem Inv.forget {i : Nat} {x : Str} {v : Option Value} {m : Str → Option Value} {h' : Heap} {t : Nat} (I : Inv X pins σ H s) (hN : X.N.Nodup) (hi : X.N[i]? = some x) (hn : s.heap.Ns X.env.locals m) (hl : ∀ (j : Nat) (y : Str) (w : V), X.N[j]? = some y → σ[j]? = some (some w) → Vis X.env.scope y → ∃ u, RelV w u ∧ Look X.env s.heap m y u)
    (hn' : h'.Ns X.env.locals (fun y => if y = x then v else m y)) (hs : Heap.SameBut X.env.locals s.heap h') : Inv X pins (σ.set i none) H { s with heap := h', toks := t } := by
  obtain ⟨oL, _, _, hoL, _⟩ := id hn
  have cne := I.cne
  refine ⟨I.ok, I.os, I.bare, ⟨fun b o e n hb hx => ?_, fun b o e n hb hx => ?_, I.base.free, fun b o e hx => ?_, I.base.tups, I.base.frzs, I.base.tbls⟩, ⟨_, hn', fun j y w e1 e2 e3 => ?_⟩, fun y c e => ?_, I.free, I.freeC, fun p hp => ?_, fun b ob e => ?_, by rw [List.length_set]; exact I.len⟩
  · exact (hs.2 b (Nat.ne_of_lt (Nat.lt_of_lt_of_le (Heap.lt_size e) I.ok.above))).trans (I.base.keep b o e n hb hx)
  · obtain ⟨sl, e1⟩ := I.base.slot b o e n hb hx
    exact ⟨sl, (hs.2 b (Nat.ne_of_lt (Nat.lt_of_lt_of_le (Heap.lt_size e) I.ok.above))).trans e1⟩
  · obtain ⟨o', e1⟩ := I.base.there b o e hx
    exact ⟨o', (hs.2 b (Nat.ne_of_lt (Nat.lt_of_lt_of_le (Heap.lt_size e) I.ok.above))).trans e1⟩
  · have hj : j ≠ i := fun z => by
      subst z
      have hlt : j < σ.length := by rw [I.len]; exact (List.getElem?_eq_some_iff.mp e1).1
      rw [List.getElem?_set_self hlt] at e2
      cases e2
    rw [List.getElem?_set_ne (Ne.symm hj)] at e2
    obtain ⟨u, r, q⟩ := hl j y w e1 e2 e3
    refine ⟨u, r, ?_⟩
    rcases q with ⟨k, e⟩ | ⟨k, c, e, z⟩
    · refine .inl ⟨k, ?_⟩
      have ne : y ≠ x := fun z => hj (nodup_ix hN e1 (z ▸ hi))
      show (if y = x then v else m y) = some u
      rw [if_neg ne]; exact e
    · exact .inr ⟨k, c, e, z.sameBut hs (cne y c e)⟩
  · obtain ⟨w', z⟩ := I.cell y c e
    exact ⟨w', z.sameBut hs (cne y c e)⟩
  · obtain ⟨e, n, ne, nf, d⟩ := I.pin p hp
    exact ⟨(hs.2 p.1 ne).trans e, n, ne, nf, d⟩
  · refine (I.hok b ob e).stay (fun c w' hc q => (hs.2 c ?_).trans q) (fun _ q => q) fun _ _ q => q
    rintro rfl
    rcases hc with rfl | hc
    · rw [I.free] at e; cases e
    · rw [I.free] at hc; cases hc
end
structure Cau (X : Cx) (pins : List (Addr × Obj)) (σ : St) (H : Hp) (ea : Addr) (cls : Value) (od : Option Addr) (s : Shared) (B : Heap) : Prop where
  inv : ∀ g, B.StaysIn g → s.heap.UpToSlots g → Inv X pins σ H { s with heap := g }
  st : B.StaysIn s.heap
  ff : s.heap.FunFrames B X.stack
  tr : Trc B s.heap ea cls od .none
  fe : H ea = none
theorem Cau.here {X : Cx} {pins : List (Addr × Obj)} {σ : St} {H : Hp} {ea : Addr} {cls : Value} {od : Option Addr} {s : Shared} {B : Heap} (c : Cau X pins σ H ea cls od s B) : Inv X pins σ H s := c.inv _ c.st (Heap.UpToSlots.refl _)
theorem Cau.move {X : Cx} {pins : List (Addr × Obj)} {σ : St} {H : Hp} {ea : Addr} {cls : Value} {od : Option Addr} {s : Shared} {B g : Heap} (c : Cau X pins σ H ea cls od s B) (h1 : B.StaysIn g) (h2 : g.FunFrames B X.stack) (h3 : Trc B g ea cls od .none) (h4 : s.heap.UpToSlots g) :
    Cau X pins σ H ea cls od { s with heap := g } B := ⟨fun g' k1 k2 => c.inv g' k1 (h4.trans k2), h1, h2, h3, c.fe⟩
theorem Cau.nofr {X : Cx} {pins : List (Addr × Obj)} {σ : St} {H : Hp} {ea : Addr} {cls : Value} {od : Option Addr} {s : Shared} {B : Heap} (c : Cau X pins σ H ea cls od s B) : ea ∉ frs X.stack := fun z => by
  obtain ⟨oe, vs, T, oT, ts, ge, _, de, _⟩ := c.tr
  obtain ⟨_, o, q, n⟩ := c.ff.mem z
  rw [ge] at q
  cases q
  exact n vs de
theorem cau_of {P : Program} {w : World} {X : Cx} {pins : List (Addr × Obj)} {σ : St} {H1 H' : Hp} {s1 s2 : Shared} {B g : Heap} {ea : Addr} {cls : Value} {od : Option Addr} (hP : X.prog = P) (hw : X.w = w) (I : Inv X pins σ H1 s1) (T : Thrown P w X.stack H1 H' s1 s2 ea cls od)
    (nb : B.get? ea = none) (cov : ∀ b o, s2.heap.get? b = some o → (s1.heap.get? b ≠ none ∧ b ∉ frs X.stack) ∨ H' b ≠ none → B.get? b = some o) (st : B.StaysIn g) (ff : g.FunFrames B X.stack) (tr : Trc B g ea cls od .none) (up : s2.heap.UpToSlots g) : Cau X pins σ H' ea cls od { s2 with heap := g } B := by
  subst hP hw
  have stk := I.stack
  have keepT : ∀ g', B.StaysIn g' → ∀ b o, H' b ≠ none → s2.heap.get? b = some o → g'.get? b = some o := fun g' st' b o n q => st' b o (cov b o q (.inr n))
  refine ⟨fun g' st' up' => ?_, st, ff, tr, ?_⟩
  · have up2 : s2.heap.UpToSlots g' := up.trans up'
    refine I.call' (s' := { s2 with heap := g' }) (ch := []) T.os ⟨fun b o q n nf _ => ?_, fun b o q n hf _ => ?_, T.un.free, fun b o q _ => ?_, T.un.tups, T.un.frzs, T.un.tbls⟩ (fun b u q => ?_) T.bare (fun b z => absurd z (by simp))
    · exact st' b o (cov b o (T.un.keep b o q n nf (by simp)) (.inl ⟨by rw [q]; simp, nf⟩))
    · obtain ⟨sl, q2⟩ := T.un.slot b o q n hf (by simp)
      obtain ⟨_, of, qf, nf⟩ := stk.mem hf
      rw [q] at qf
      cases qf
      obtain ⟨sl3, q3⟩ := up2 b _ q2 nf
      exact ⟨sl3, q3⟩
    · obtain ⟨o2, q2⟩ := T.un.there b o q (by simp)
      by_cases hf : b ∈ frs X.stack
      · obtain ⟨_, of, qf, nf⟩ := stk.mem hf
        rw [q] at qf
        cases qf
        obtain ⟨sl, q2'⟩ := T.un.slot b o q (I.stkFree b hf) hf (by simp)
        obtain ⟨sl3, q3⟩ := up2 b _ q2' nf
        exact ⟨_, q3⟩
      · exact ⟨o2, st' b o2 (cov b o2 q2 (.inl ⟨by rw [q]; simp, hf⟩))⟩
    · refine (T.hok b u q).stay (fun c v hc r => keepT g' st' c v ?_ r) (fun _ r => r) fun _ _ r => r
      rcases hc with z | z
      · rw [z, q]; simp
      · rw [z]; simp
  · cases z : H' ea with
    | none => rfl
    | some u =>
      obtain ⟨ob, r⟩ := objAt (T.hok ea u z)
      have := cov ea ob r (.inr (by rw [z]; simp))
      rw [nb] at this
      cases this
noncomputable abbrev TH := Addr → Value → Option Addr → TS
noncomputable def WH (X : Cx) (hs : List ExceptHandler) (th : TH) : Prop :=
  ∀ (pins : List (Addr × Obj)) (s : Shared) (σ : St) (H : Hp) (ea : Addr) (cls : Value) (od : Option Addr) (B : Heap) (D : Ends), Cau X pins σ H ea cls od s B → th ea cls od D σ H → wpAny (model X.prog X.w) X.A (handleBy (.ref ea) X.env hs) (SP X pins D) X.xe s
noncomputable def hNil : TH := fun _ _ _ _ _ _ => False
noncomputable def hAs (K : PySem.W.Frag) (C : Addr) (i : Nat) (ts : TH) (rest : TH) : TH := fun ea cls od D σ H => ∃ b, PySem.W.exmOne K cls (.ref C) = some b ∧
  if b = true then ts ea cls od { D with nx := fun σ' H' => D.nx (σ'.set i none) H', bk := fun σ' H' => D.bk (σ'.set i none) H', ct := fun σ' H' => D.ct (σ'.set i none) H' } (σ.set i (some (.ref ea))) H else rest ea cls od D σ H
section
variable {X : Cx} {C : Addr} {x : Str} {np hpos : Pos} {b₀ : Stmt} {su : List Stmt} {rest : List ExceptHandler} {ts tr : TH}
theorem wh_nil : WH X [] hNil := fun _ _ _ _ _ _ _ _ _ _ h => h.elim
theorem Trc.look {M : Model} {B h : Heap} {e : Addr} {cls : Value} {od : Option Addr} {fl : Value} (t : Trc B h e cls od fl) : PySem.W.Looks M h (typeOf (.ref e)) cls := by
  obtain ⟨oe, vs, T, oT, ts, ge, ⟨hc, _⟩, _⟩ := t
  exact hc ▸ (PySem.W.Looks.ld ge).andThen .now
theorem fields_inv {X : Cx} {pins : List (Addr × Obj)} {σ : St} {H : Hp} {ea : Addr} (fe : H ea = none) {oe : Obj} {s' : Shared} (I' : Inv X pins σ H s') (g' : s'.heap.get? ea = some oe) (hd' : ∃ ws, oe.data = .fields ws) : Inv (X.inExc ea oe) pins σ H s' := by
  obtain ⟨ws, d'⟩ := hd'
  refine I'.toExc g' fe (fun z => ?_) (fun z => ?_) (fun v z => by rw [d'] at z; cases z)
  · obtain ⟨m, ⟨o, es, ep, ho, hd, _⟩, _⟩ := I'.loc
    rw [← z, g'] at ho
    cases ho
    rw [d'] at hd
    cases hd
  · obtain ⟨_, o, q, n⟩ := I'.funs.mem z
    rw [g'] at q
    cases q
    exact n ws d'
theorem wh_as {n : Str} {i : Nat} (hg : Gl X x) (hm : X.mg x = some (.ref C)) (hN : X.N.Nodup) (hi : X.N[i]? = some n) (hn : X.env.scope.names.lookup n = some .local)
    (hs : ∀ ea oe cls od, oe.cls = cls → oe.dict = od → PySem.W.notCls oe = true → WSs (X.inExc ea oe) (b₀ :: su) (ts ea cls od)) (hr : WH X rest tr) (hdb : (x == ("__debug__" : Str)) = false := by decide) :
    WH X (.ExceptHandler (some (.Name x np)) (some n) (b₀ :: su) hpos :: rest) (hAs X.K C i ts tr) := by
  intro pins s σ H ea cls od B D c ⟨b, hb, h⟩
  have I := c.here
  obtain ⟨oe, vs, T, oT, tts, ge, ce, de, v1, nT, neT, gT, dT, t3⟩ := id c.tr
  have I1 := fields_inv c.fe I ge ⟨vs, de⟩
  refine wpAny_handleBy_cons (codeAny_handlers_test (ld_glob (X := X.inExc ea oe) I1 hg hm ?_ hdb)) (by intro q; cases q)
  refine (PySem.W.exm_one I.kIn c.tr.look hb) _ _ _ s (fun _ _ q => q) ?_
  cases b with
  | false => exact hr pins s σ H ea cls od B D c h
  | true =>
    refine codeAny_handlers_suite_as (flight_off c.st c.ff c.tr fun g h1 h2 h3 h4 => ?_)
    have c2 := c.move h1 h2 h3 h4
    obtain ⟨oe2, vs2, _, _, _, ge2, ⟨hc2, hd2⟩, de2, _⟩ := id h3
    have I2 := fields_inv c.fe c2.here ge2 ⟨vs2, de2⟩
    refine store_ok (X := X.inExc ea oe2) I2 hN hi (.inl hn) (show RelV (.ref ea) (.ref ea) from rfl) (fun s3 I3 => ?_) (.inr hn)
    have fin : ∀ {σ' : St} {H' : Hp} {s4 : Shared} (Q' : Shared → Prop), Inv (X.inExc ea oe2) pins σ' H' s4 → (∀ s5, Inv X pins (σ'.set i none) H' s5 → Q' s5) →
        wpAny (model X.prog X.w) X.A (do bindName X.env n .none; unbindBehindTheSuite X.env n hpos) (fun _ s5 => Q' s5) X.xe s4 := fun {σ' H' s4} Q' I4 k => by
      have I5 := I4.ofExc I.ok
      obtain ⟨m, hns, hl⟩ := id I5.loc
      have hcls : (X.env.scope.kind == .class || (X.env.scope.kind == .module && X.env.locals != X.env.globals)) = false := by rw [I.ok.kind]; rfl
      exact wpAny_nameGoes_keeps hn hns hcls fun h' v hn' hs' => k _ (I5.forget hN hi hns hl hn' hs')
    refine wpAny_mono ((hs ea oe2 cls od hc2 hd2 (by simp only [PySem.W.notCls, de2])).h pins s3 (σ.set i (some (.ref ea))) H { D with nx := fun σ' H' => D.nx (σ'.set i none) H', bk := fun σ' H' => D.bk (σ'.set i none) H', ct := fun σ' H' => D.ct (σ'.set i none) H' } I3 h) (fun f s4 q => ?_) fun _ _ z => False.elim z
    cases f with
    | next =>
      obtain ⟨σ', H', I4, q⟩ := q
      exact fin _ I4 fun s5 I5 => ⟨_, H', I5, q⟩
    | brk =>
      obtain ⟨σ', H', I4, q⟩ := q
      exact fin _ I4 fun s5 I5 => ⟨_, H', I5, q⟩
    | cont =>
      obtain ⟨σ', H', I4, q⟩ := q
      exact fin _ I4 fun s5 I5 => ⟨_, H', I5, q⟩
    | ret u =>
      obtain ⟨v, σ', H', I4, r, q⟩ := q
      exact fin _ I4 fun s5 I5 => ⟨v, _, H', I5, r, q⟩
end
noncomputable def tTry (tb : (St → XK) → TS) (th : TH) : TS := fun D σ H => tb (fun σ' cls od H' => ∀ ea, H' ea = none → th ea cls od D σ' H') D σ H
theorem ws_try {X : Cx} {N : List Str} {sc : Scope} {body : List Stmt} {h0 : ExceptHandler} {hs : List ExceptHandler} {pos : Pos} {tb : (St → XK) → TS} {th : TH} (c : CxIs X N sc) (dx : DefCx X)
    (hb : ∀ (E' : Value → Shared → Prop) (pl : List (Addr × Obj)) (E : St → XK), CxIs (X.inTry E' pl) N sc → PassesS (CX1 X.prog X.w) (X.inTry E' pl) E → WSs (X.inTry E' pl) body (tb E)) (hh : WH X (h0 :: hs) th) :
    WS X (.Try body (h0 :: hs) [] [] pos) (tTry tb th) := by
  refine ⟨fun pins s σ H D I h => ?_⟩
  refine wpAny_Try_except ?_
  have c' : CxIs (X.inTry (fun e s₁ => wpAny (model X.prog X.w) X.A (noteFrame e X.env) (fun _ s₂ => wpAny (model X.prog X.w) X.A (setFlight e none) (fun _ s₃ => wpAny (model X.prog X.w) X.A (handleBy e X.env (h0 :: hs)) (SP X pins D) X.xe s₃) X.xe s₂) X.xe s₁) pins) N sc :=
    ⟨c.n, c.s, c.calm, PassesOwn.looking⟩
  have hp : PassesS (CX1 X.prog X.w) (X.inTry (fun e s₁ => wpAny (model X.prog X.w) X.A (noteFrame e X.env) (fun _ s₂ => wpAny (model X.prog X.w) X.A (setFlight e none) (fun _ s₃ => wpAny (model X.prog X.w) X.A (handleBy e X.env (h0 :: hs)) (SP X pins D) X.xe s₃) X.xe s₂) X.xe s₁) pins)
      (fun σ' cls od H' => ∀ ea, H' ea = none → th ea cls od D σ' H') := by
    rintro pins1 σ1 H1 s1 e s2 I1 ⟨ea, cls, od, H', rfl, T, hE⟩
    have J := I1.ofTry
    obtain ⟨B, st, nb, ff, tr, cov⟩ := T.fly
    have ff' : s2.heap.FunFrames B (X.env :: X.outer) := by rw [← dx.st]; exact ff
    refine note_next (L := X.env.locals) (by rw [J.ok.frames, dx.st]) ff' dx.fr tr st nb fun g1 k1 k2 k3 k4 => ?_
    refine flight_off (s := { s2 with heap := g1 }) k1 k2 k3 fun g2 j1 j2 j3 j4 => ?_
    have cc := cau_of rfl rfl J T nb cov j1 (by rw [dx.st]; exact j2) j3 (k4.trans j4)
    exact hh pins _ σ1 H' ea cls od B D cc (hE ea cc.fe)
  refine wpAny_mono ((hb _ pins _ c' hp).h [] s σ H D I.toTry h) (fun f s1 q => ?_) fun e s1 q => q
  have q' := SP.ofTry q
  cases f with
  | next => exact wpAny_execs_nil q'
  | ret u => exact q'
  | brk => exact q'
  | cont => exact q'
structure CxN (X : Cx) (N : List Str) (sc : Scope) : Prop where
  n : X.N = N
  s : X.env.scope = sc
theorem CxIs.toN {X : Cx} {N : List Str} {sc : Scope} (c : CxIs X N sc) (ea : Addr) (oe : Obj) : CxN (X.inExc ea oe) N sc := ⟨c.n, c.s⟩
section
variable {X : Cx} {N : List Str} {sc : Scope} {pos : Pos} {i : Nat} {x : Str}
theorem nxv (c : CxN X N sc) (hi : N[i]? = some x) (hv : sc.names.lookup x = some .local) (hd : (x == ("__debug__" : Str)) = false) (hcd : (x == ("__classdict__" : Str)) = false) : WE X (.Name x pos) (tVar i) :=
  ⟨pe_var (by rw [c.n]; exact hi) (Or.inl (by rw [c.s]; exact hv)) hd hcd⟩
theorem nxs (c : CxN X N sc) (nd : N.Nodup) {e : Expr} {te : TE} {pos' : Pos} (hi : N[i]? = some x) (hv : sc.names.lookup x = some .local) (he : WE X e te) (hs : swapsWith e (some (.Name x pos')) pos.line X.env = pure false := by rfl) :
    WS X (.Assign [.Name x pos'] e pos) (tAsg te (gN i)) := ⟨ps_setN (by rw [c.n]; exact nd) (by rw [c.n]; exact hi) (Or.inl (by rw [c.s]; exact hv)) he.h hs (Or.inr (by rw [c.s]; exact hv))⟩
theorem nxg (c : CxN X N sc) (hv : sc.names.lookup x = some .globalImplicit) : Gl X x := by
  show X.env.scope.names.lookup x = _
  rw [c.s]; exact hv
end
structure ExcKit (K : PySem.W.Frag) (C : Addr) : Prop where
  ga : PySem.W.findIn K (.ref C) "__getattribute__" = some (some (.builtin "BaseException.__getattribute__"))
  gn : PySem.W.findIn K (.ref C) "__getattr__" = some none
  hb : PySem.W.mroIn K C (.type "BaseException") = some true
  hd : PySem.W.hasDictIn K C = true
  ha : PySem.W.findIn K (.ref C) "__class__" = some (some (.builtin "object.__class__"))
  hn : PySem.W.specialIn K (.builtin "object.__class__") "__get__" = some (some (.builtin "getset_descriptor.__get__"))
  htk : PySem.W.takesIn K (.builtin "object.__class__") = some true
  hm : PySem.W.mroIn K C (.type "object") = some true
section
variable {prog : Program} {w : World} {A : Around} {E : Value → Shared → Prop} {s : Shared} {K : PySem.W.Frag} {x D : Addr} {ox : Obj} {odo : Option Obj}
theorem ga_check {M : Model} {nameV : Value} {Q : Unit → Shared → Prop} (k : ExcKit K D) (X : K.In s.heap) (I : PySem.W.InstAt s.heap x ox D odo) (hq : Q () s) : wpAny M A (checkBuiltinCall "BaseException.__getattribute__" ⟨[.ref x, nameV], []⟩) Q E s := by
  obtain ⟨hh, g, d, t, os⟩ := s
  have hk : builtinKind "BaseException.__getattribute__" = some .slot := by decide +kernel
  have hs : splitId "BaseException.__getattribute__" = some ("BaseException", "__getattribute__") := by decide +kernel
  have ha := F.args_bexc_ga (.ref x) nameV
  have L0 := I.type (M := M)
  have L1 := PySem.W.looks_mroIn (M := M) X k.hb
  simp only [checkBuiltinCall, hk, hs]
  refine wpAny_bind ?_
  unfold isInstance
  refine wpAny_bind (L0.at (L1.at ?_))
  repeat (any_goals (first | assumption | wp_step))
theorem ga_body {tk : Tok} {name : Str} {g a : Value} {Q : Fin → Shared → Prop} (X : K.In s.heap) (I : PySem.W.InstAt s.heap x ox D odo) (hf : PySem.W.findObj K D odo name = some (.bind g a))
    (h : wpAny (model prog w) A (call g [a, .ref x, .ref D]) (fun v s' => Q (.done (.ret v)) s') E s) :
    wpAny (model prog w) A (Builtin.«object.__getattribute__» ⟨[.ref x, .str name tk], []⟩) Q E s := by
  obtain ⟨hh, gg, d, t, os⟩ := s
  have L0 := I.type (M := model prog w)
  have L1 := PySem.W.looks_find (M := model prog w) X I hf
  unfold Builtin.«object.__getattribute__»
  refine wpAny_bind (wpAny_pure (wpAny_bind (wpAny_pure (wpAny_bind (L0.at (wpAny_bind (L1.at ?_)))))))
  show wpAny _ _ (holding [a] (call g [a, .ref x, .ref D]) >>= ret) _ _ _
  exact wpAny_bind (wpAny_holding (wpAny_mono h (fun v s' z => wpAny_pure z) fun _ _ z => z))
theorem ga_by {tk : Tok} {name : Str} {fill expr : Bool} {Q : Value → Shared → Prop} (k : ExcKit K D) (X : K.In s.heap) (I : PySem.W.InstAt s.heap x ox D odo)
    (h : wpAny (model prog w) A.in1 (Builtin.«object.__getattribute__» ⟨[.ref x, .str name tk], []⟩)
      (fun fin s' => match fin with | .done (.ret v) => wpAny (model prog w) A (handedOut v) Q E s' | _ => False) (fun _ _ => False) s) :
    wpAny (model prog w) A (getAttrBy (.ref x) (.str name tk) fill expr) Q E s := by
  obtain ⟨hh, gg, d, t, os⟩ := s
  have L0 := I.type (M := model prog w)
  have L1 := PySem.W.looks_findIn (M := model prog w) X k.ga
  have L2 := PySem.W.looks_findIn (M := model prog w) X k.gn
  have hx2 : (Value.builtin "BaseException.__getattribute__" == Value.builtin "object.__getattribute__") = false := by decide +kernel
  have hx1 : (onTheHeap (Value.ref D) && Value.builtin "BaseException.__getattribute__" == Value.builtin "object.__getattribute__") = false := by rw [hx2]; rfl
  have hx0 : (expr && onTheHeap (Value.builtin "BaseException.__getattribute__")) = false := by cases expr <;> rfl
  have FB := F.attrBase_ValueError
  unfold getAttrBy
  refine wpAny_holding (wpAny_bind (L0.at (wpAny_bind (L1.at ?_))))
  dsimp only
  rw [hx1]
  show wpAny _ _ (getAttrByItsOwn _ _ _ _ _ _) _ _ _
  unfold getAttrByItsOwn hookBefore
  refine wpAny_bind (L2.at ?_)
  refine wpAny_bind (wpAny_attempt (wpAny_holding ?_))
  unfold callGetattribute
  rw [hx0]
  show wpAny _ _ (boundAndCalled _ _ _) _ _ _
  unfold boundAndCalled
  rw [FB.ga.bind]
  refine wpAny_bind (wpAny_pure ?_)
  refine wpAny_call (codeAny_call_builtin FB.ga.plain F.entry_bexc_ga (ga_check k X I ?_))
  refine wpAny_mono h (fun fin s' z => ?_) fun _ _ z => z.elim
  rcases fin with (_ | _ | _ | _) | _ <;> first | exact z | exact z.elim
theorem exc_class {Q : Option Value → Shared → Prop} (k : ExcKit K D) (X : K.In s.heap) (I : PySem.W.InstAt s.heap x ox D odo) (h : Q (some (.ref D)) { s with toks := s.toks + 1 }) : wpAny (model prog w) A (getAttr? (.ref x) "__class__") Q E s := by
  have hf : PySem.W.findObj K D odo "__class__" = some (.bind (.builtin "getset_descriptor.__get__") (.builtin "object.__class__")) := by
    obtain ⟨cd, hc, _⟩ := PySem.W.any_some k.hd
    simp [PySem.W.findObj, hc, k.ha, k.hn, k.htk]
  obtain ⟨hh, g, d, t, os⟩ := s
  unfold getAttr? getAttrBy?
  refine wpAny_bind (wpAny_mkText (wpAny_bind (wpAny_attempt ?_)))
  refine ga_by k X I (ga_body X I hf (wpAny_call (PySem.W.class_get X I k.hm ?_)))
  exact PySem.W.handed_on rfl (wpAny_pure h)
theorem kitx_exc (k : ExcKit K D) : PySem.W.KitX K (.ref x) (.ref D) (fun h => PySem.W.InstAt h x ox D odo) where
  ty := fun _ _ _ I => I.type
  it := fun _ _ X _ => by
    obtain ⟨cdD, hcD, _⟩ := PySem.W.any_some k.hd
    unfold PySem.W.clsIn at hcD
    split at hcD
    · rename_i c' d' cd' sl' ho
      intro A' Q' E' s' kk q
      unfold isType loadHead
      exact wpAny_bind (wpAny_loadPart (kk _ _ (X _ _ ho)) (wpAny_pure q))
    · cases hcD
  ne := fun h tp dd its n sl X htp => by
    obtain ⟨cdD, hcD, _⟩ := PySem.W.any_some k.hd
    refine Bool.eq_false_iff.mpr fun q => ?_
    have e : D = tp := Value.ref.inj (beq_iff_eq.mp q)
    subst e
    unfold PySem.W.clsIn at hcD
    split at hcD
    · rename_i c' d' cd' sl' ho
      have z := (X _ _ ho).symm.trans htp
      cases z
    · cases hcD
  ca := fun X I q => exc_class k X I q
end
noncomputable def clsV : V → Option Value
  | .ref a => some (.ref a)
  | .ty t => some (.type t)
  | _ => none
noncomputable def OdOk (H : Hp) : Option Addr → Prop
  | none => True
  | some d => ∃ fs, H d = some (.xd fs)
section
variable {X : Cx} {ea : Addr} {oe : Obj} {cls : Value} {od : Option Addr}
theorem exc_at {pins : List (Addr × Obj)} {σ : St} {H : Hp} {s : Shared} {C : Addr} (I : Inv (X.inExc ea oe) pins σ H s) (h1 : oe.cls = .ref C) (hn : PySem.W.notCls oe = true) (h2 : oe.dict = od) (ho : OdOk H od) : ∃ odo, PySem.W.InstAt s.heap ea oe C odo := by
  obtain ⟨ge, _⟩ := I.pin (ea, oe) (List.mem_cons_self ..)
  cases od with
  | none => exact ⟨none, ge, h1, hn, by rw [h2]; trivial⟩
  | some d =>
    obtain ⟨fs, hd⟩ := ho
    obtain ⟨mA, ⟨o, es, ep, ho, r⟩, _⟩ := I.hok d _ hd
    exact ⟨some o, ge, h1, hn, by rw [h2]; exact ho⟩
theorem call_isinstE (h1 : oe.cls = cls) (h2 : oe.dict = od) (hn : PySem.W.notCls oe = true) : CallR (X.inExc ea oe) (.builtin "isinstance") (fun xs H Q => ∃ C D d b, xs = [.ref ea, D] ∧ cls = .ref C ∧ ExcKit X.K C ∧ OdOk H od ∧ clsV D = some d ∧ PySem.W.kitOne X.K (.ref C) d = some b ∧ Q (.bl b) H) := by
  intro pins s σ H xs us Q I r h
  obtain ⟨C, D, d, b, rfl, rfl, k, ho, hd, e, q⟩ := h
  obtain ⟨u, v, rfl, rx, rc⟩ := Vals.two r
  cases (show u = Value.ref ea from rx)
  have hv : v = d := by
    cases D <;> first | (cases hd; exact rc) | cases hd
  subst hv
  obtain ⟨odo, J⟩ := exc_at I h1 hn h2 ho
  exact PySem.W.kia_one (kitx_exc k) I.kIn J e (fun z => nomatch z) fun tk => ⟨.bl b, H, I.tok tk, rfl, q⟩
end
end L2
set_option Elab.async false
set_option linter.all false
set_option maxRecDepth 100000
set_option maxHeartbeats 4000000
namespace L2
open PySem PySem.Spec PyProof.Rows
section
variable {X : Cx} {elt iter tst : Expr} {x : Str} {px pos : Pos} {scope : Scope} {fs : List Str} {fr : List Nat} {wi : TI} {te : TE} {tt : TT}
end
section
variable {X : Cx} {elt iter tst : Expr} {x : Str} {px pos : Pos} {scope sc : Scope} {N fs : List Str} {fr : List Nat} {wi : TI} {te : TE} {tt : TT}
end
section
variable {X : Cx} {o i value : Expr} {pos pos' : Pos} {td ty tv : TE}
end
theorem boot_ty_ValueError : bootBuiltins "ValueError" = some (.type "ValueError") := by decide +kernel
end L2
set_option Elab.async false
set_option linter.all false
set_option maxRecDepth 100000
set_option maxHeartbeats 4000000
namespace My
open PySem L2
noncomputable def top (i : Nat) : Stmt := PySem.Challenge.pw_roundprice_k19_exchanged.main.body.getD i (.Pass ⟨0, 0, 0, 0⟩)
noncomputable abbrev s_alike : Stmt := top 29
theorem sc_alike : FnScope ["one", "other"] ["one", "other"] (defScope s_alike) := ⟨rfl, rfl, rfl, by decide +kernel, rfl, by decide +kernel, by decide +kernel⟩
noncomputable abbrev s_exchanged : Stmt := top 30
theorem sc_exchanged : FnScope ["chain", "k", "steps"] ["chain", "k"] (defScope s_exchanged) := ⟨rfl, rfl, rfl, by decide +kernel, rfl, by decide +kernel, by decide +kernel⟩
noncomputable abbrev s_may_exchange : Stmt := top 31
theorem sc_may_exchange : FnScope ["chain", "k"] ["chain", "k"] (defScope s_may_exchange) := ⟨rfl, rfl, rfl, by decide +kernel, rfl, by decide +kernel, by decide +kernel⟩
noncomputable abbrev s_law_at : Stmt := top 33
theorem sc_law_at : FnScope ["_law_script", "_law_k"] ["_law_script", "_law_k"] (defScope s_law_at) := ⟨rfl, rfl, rfl, by decide +kernel, rfl, by decide +kernel, by decide +kernel⟩
noncomputable abbrev s_law_draw : Stmt := top 34
theorem sc_law_draw : FnScope ["_law_script", "_law_k", "_law_cell"] ["_law_script", "_law_k"] (defScope s_law_draw) := ⟨rfl, rfl, rfl, by decide +kernel, rfl, by decide +kernel, by decide +kernel⟩
noncomputable abbrev s_law_whole : Stmt := top 35
theorem sc_law_whole : FnScope ["_law_found"] ["_law_found"] (defScope s_law_whole) := ⟨rfl, rfl, rfl, by decide +kernel, rfl, by decide +kernel, by decide +kernel⟩
noncomputable abbrev s_law_gcd : Stmt := top 36
theorem sc_law_gcd : FnScope ["_law_one", "_law_other"] ["_law_one", "_law_other"] (defScope s_law_gcd) := ⟨rfl, rfl, rfl, by decide +kernel, rfl, by decide +kernel, by decide +kernel⟩
noncomputable abbrev s_law_step : Stmt := top 37
theorem sc_law_step : FnScope ["_law_cell", "_law_size", "_law_most", "_law_units", "_law_word", "_law_left", "_law_bottom", "_law_top", "_law_unit", "_law_way", "_law_pennies"] ["_law_cell", "_law_size"] (defScope s_law_step) := ⟨rfl, rfl, rfl, by decide +kernel, rfl, by decide +kernel, by decide +kernel⟩
noncomputable abbrev s_law_num : Stmt := top 38
theorem sc_law_num : FnScope ["_law_step_here"] ["_law_step_here"] (defScope s_law_num) := ⟨rfl, rfl, rfl, by decide +kernel, rfl, by decide +kernel, by decide +kernel⟩
noncomputable abbrev s_law_own : Stmt := top 39
theorem sc_law_own : FnScope ["_law_step_here", "_law_wide"] ["_law_step_here"] (defScope s_law_own) := ⟨rfl, rfl, rfl, by decide +kernel, rfl, by decide +kernel, by decide +kernel⟩
noncomputable abbrev s_law_product : Stmt := top 40
theorem sc_law_product : FnScope ["_law_steps", "_law_wide", "_law_step_here"] ["_law_steps"] (defScope s_law_product) := ⟨rfl, rfl, rfl, by decide +kernel, rfl, by decide +kernel, by decide +kernel⟩
noncomputable abbrev s_law_chain : Stmt := top 41
theorem sc_law_chain : FnScope ["_law_script", "_law_base", "_law_many", "_law_limit", "_law_size", "_law_steps", "_law_k", "_law_cell", "_law_step_here"] ["_law_script", "_law_base", "_law_many", "_law_limit"] (defScope s_law_chain) := ⟨rfl, rfl, rfl, by decide +kernel, rfl, by decide +kernel, by decide +kernel⟩
noncomputable abbrev s_law_same_step : Stmt := top 42
theorem sc_law_same_step : FnScope ["_law_found", "_law_step_here", "_law_k"] ["_law_found", "_law_step_here"] (defScope s_law_same_step) := ⟨rfl, rfl, rfl, by decide +kernel, rfl, by decide +kernel, by decide +kernel⟩
noncomputable abbrev s_law_same_chain : Stmt := top 43
theorem sc_law_same_chain : FnScope ["_law_found", "_law_steps", "_law_k"] ["_law_found", "_law_steps"] (defScope s_law_same_chain) := ⟨rfl, rfl, rfl, by decide +kernel, rfl, by decide +kernel, by decide +kernel⟩
noncomputable abbrev s_law_refused : Stmt := top 44
theorem sc_law_refused : FnScope ["_law_steps", "_law_place", "_law_door", "_law_handed", "_law_other", "e"] ["_law_steps", "_law_place", "_law_door"] (defScope s_law_refused) := ⟨rfl, rfl, rfl, by decide +kernel, rfl, by decide +kernel, by decide +kernel⟩
noncomputable abbrev s_law : Stmt := top 45
theorem sc_law : FnScope ["_law_script", "_law_steps", "_law_handed", "_law_k", "_law_far", "_law_place", "_law_due", "_law_found"] ["_law_script"] (defScope s_law) := ⟨rfl, rfl, rfl, by decide +kernel, rfl, by decide +kernel, by decide +kernel⟩
structure Txt_NoPlace (K : PySem.W.Frag) (mg : Str → Option Value) : Prop where
  g : mg "NoPlace" = some (.ref (clsAt K "NoPlace"))
  kit : ExcKit K (clsAt K "NoPlace")
  q : PySem.W.excIn K (clsAt K "NoPlace") veMro "ValueError.__new__" = true
  m_Refused : PySem.W.exmOne K (.ref (clsAt K "NoPlace")) (.ref (clsAt K "Refused")) = some true
  i_Refused : PySem.W.kitOne K (.ref (clsAt K "NoPlace")) (.ref (clsAt K "Refused")) = some true
  m_BadStep : PySem.W.exmOne K (.ref (clsAt K "NoPlace")) (.ref (clsAt K "BadStep")) = some false
  i_BadStep : PySem.W.kitOne K (.ref (clsAt K "NoPlace")) (.ref (clsAt K "BadStep")) = some false
  m_TooLong : PySem.W.exmOne K (.ref (clsAt K "NoPlace")) (.ref (clsAt K "TooLong")) = some false
  i_TooLong : PySem.W.kitOne K (.ref (clsAt K "NoPlace")) (.ref (clsAt K "TooLong")) = some false
  m_BadPrice : PySem.W.exmOne K (.ref (clsAt K "NoPlace")) (.ref (clsAt K "BadPrice")) = some false
  i_BadPrice : PySem.W.kitOne K (.ref (clsAt K "NoPlace")) (.ref (clsAt K "BadPrice")) = some false
  m_TooMany : PySem.W.exmOne K (.ref (clsAt K "NoPlace")) (.ref (clsAt K "TooMany")) = some false
  i_TooMany : PySem.W.kitOne K (.ref (clsAt K "NoPlace")) (.ref (clsAt K "TooMany")) = some false
  m_NoEdition : PySem.W.exmOne K (.ref (clsAt K "NoPlace")) (.ref (clsAt K "NoEdition")) = some false
  i_NoEdition : PySem.W.kitOne K (.ref (clsAt K "NoPlace")) (.ref (clsAt K "NoEdition")) = some false
  m_NoSale : PySem.W.exmOne K (.ref (clsAt K "NoPlace")) (.ref (clsAt K "NoSale")) = some false
  i_NoSale : PySem.W.kitOne K (.ref (clsAt K "NoPlace")) (.ref (clsAt K "NoSale")) = some false
  m_NoPlace : PySem.W.exmOne K (.ref (clsAt K "NoPlace")) (.ref (clsAt K "NoPlace")) = some true
  i_NoPlace : PySem.W.kitOne K (.ref (clsAt K "NoPlace")) (.ref (clsAt K "NoPlace")) = some true
  iv : PySem.W.kitOne K (.ref (clsAt K "NoPlace")) (.type "ValueError") = some true
structure Txt_Refused (K : PySem.W.Frag) (mg : Str → Option Value) : Prop where
  g : mg "Refused" = some (.ref (clsAt K "Refused"))
structure Txt_BadStep (K : PySem.W.Frag) (mg : Str → Option Value) : Prop where
  g : mg "BadStep" = some (.ref (clsAt K "BadStep"))
structure Txt_TooLong (K : PySem.W.Frag) (mg : Str → Option Value) : Prop where
  g : mg "TooLong" = some (.ref (clsAt K "TooLong"))
structure Txt_BadPrice (K : PySem.W.Frag) (mg : Str → Option Value) : Prop where
  g : mg "BadPrice" = some (.ref (clsAt K "BadPrice"))
  kit : ExcKit K (clsAt K "BadPrice")
  q : PySem.W.excIn K (clsAt K "BadPrice") veMro "ValueError.__new__" = true
  m_Refused : PySem.W.exmOne K (.ref (clsAt K "BadPrice")) (.ref (clsAt K "Refused")) = some true
  i_Refused : PySem.W.kitOne K (.ref (clsAt K "BadPrice")) (.ref (clsAt K "Refused")) = some true
  m_BadStep : PySem.W.exmOne K (.ref (clsAt K "BadPrice")) (.ref (clsAt K "BadStep")) = some false
  i_BadStep : PySem.W.kitOne K (.ref (clsAt K "BadPrice")) (.ref (clsAt K "BadStep")) = some false
  m_TooLong : PySem.W.exmOne K (.ref (clsAt K "BadPrice")) (.ref (clsAt K "TooLong")) = some false
  i_TooLong : PySem.W.kitOne K (.ref (clsAt K "BadPrice")) (.ref (clsAt K "TooLong")) = some false
  m_BadPrice : PySem.W.exmOne K (.ref (clsAt K "BadPrice")) (.ref (clsAt K "BadPrice")) = some true
  i_BadPrice : PySem.W.kitOne K (.ref (clsAt K "BadPrice")) (.ref (clsAt K "BadPrice")) = some true
  m_TooMany : PySem.W.exmOne K (.ref (clsAt K "BadPrice")) (.ref (clsAt K "TooMany")) = some false
  i_TooMany : PySem.W.kitOne K (.ref (clsAt K "BadPrice")) (.ref (clsAt K "TooMany")) = some false
  m_NoEdition : PySem.W.exmOne K (.ref (clsAt K "BadPrice")) (.ref (clsAt K "NoEdition")) = some false
  i_NoEdition : PySem.W.kitOne K (.ref (clsAt K "BadPrice")) (.ref (clsAt K "NoEdition")) = some false
  m_NoSale : PySem.W.exmOne K (.ref (clsAt K "BadPrice")) (.ref (clsAt K "NoSale")) = some false
  i_NoSale : PySem.W.kitOne K (.ref (clsAt K "BadPrice")) (.ref (clsAt K "NoSale")) = some false
  m_NoPlace : PySem.W.exmOne K (.ref (clsAt K "BadPrice")) (.ref (clsAt K "NoPlace")) = some false
  i_NoPlace : PySem.W.kitOne K (.ref (clsAt K "BadPrice")) (.ref (clsAt K "NoPlace")) = some false
  iv : PySem.W.kitOne K (.ref (clsAt K "BadPrice")) (.type "ValueError") = some true
structure Txt_TooMany (K : PySem.W.Frag) (mg : Str → Option Value) : Prop where
  g : mg "TooMany" = some (.ref (clsAt K "TooMany"))
structure Txt_NoEdition (K : PySem.W.Frag) (mg : Str → Option Value) : Prop where
  g : mg "NoEdition" = some (.ref (clsAt K "NoEdition"))
structure Txt_NoSale (K : PySem.W.Frag) (mg : Str → Option Value) : Prop where
  g : mg "NoSale" = some (.ref (clsAt K "NoSale"))
noncomputable def sp_alike (K : PySem.W.Frag) : Sp := fun vs _ _ _ => ∃ a b, vs = [a, b] ∧ False
theorem body_alike {X : Cx} (c : CxIs X ["one", "other"] (defScope s_alike)) (hr : Room 0 X.A) {E : XK}   {vs : List V} {H : Hp} {Q : VK} (h : sp_alike X.K vs H Q E) : ∃ t, WSs X (defBody s_alike) t ∧ t { nx := fun _ H' => Q .non H', rt := Q } (L2.start ["one", "other"] vs) H := by
  obtain ⟨_, _, _, h⟩ := h
  exact h.elim
theorem cal_alike {P : Program} {w : World} {K : PySem.W.Frag} {mg : Str → Option Value} {base : Heap} {f : Addr} {fd : FuncData} (F : Fun K "alike" "alike" s_alike f fd) (b : Binds K fd ["one", "other"] []) (m : mg "alike" = some (.ref f))  : Cal P w K mg base "alike" 1 ["one", "other"] (sp_alike K) :=
  ⟨f, fd, F.ok sc_alike (fun vs H Q E h => by first | (obtain ⟨_, rfl, _⟩ := h; rfl) | (obtain ⟨_, _, rfl, _⟩ := h; rfl) | (obtain ⟨_, _, _, rfl, _⟩ := h; rfl) | (obtain ⟨_, _, _, _, rfl, _⟩ := h; rfl) | (obtain ⟨_, _, _, _, _, rfl, _⟩ := h; rfl) | (obtain ⟨_, _, _, _, _, _, rfl, _⟩ := h; rfl) | (obtain ⟨_, _, _, _, _, _, _, rfl, _⟩ := h; rfl) | (obtain ⟨_, _, _, _, _, _, _, _, rfl, _⟩ := h; rfl) | (obtain ⟨_, _, _, _, _, _, _, _, _, rfl, _⟩ := h; rfl)) (fun cdv A outer s H vs Q E hr h => unW (body_alike (X := (cxOf CX0 P w K mg base ["one", "other"] "alike" (defScope s_alike) f cdv A outer s H E).nox) ⟨rfl, rfl, rfl, PassesOwn.never⟩ hr  h)), b, F.kp, m⟩
theorem lk_exchanged_0 : (defScope s_exchanged).names.lookup ("chain" : Str) = some .local := by decide +kernel
theorem pv_exchanged_0 {X : Cx} (c : CxIs X ["chain", "k", "steps"] (defScope s_exchanged)) {pos : Pos} : WE X (.Name "chain" pos) (tVar 0) := wxv c rfl lk_exchanged_0 (by decide) (by decide)
theorem lk_exchanged_1 : (defScope s_exchanged).names.lookup ("k" : Str) = some .local := by decide +kernel
theorem pv_exchanged_1 {X : Cx} (c : CxIs X ["chain", "k", "steps"] (defScope s_exchanged)) {pos : Pos} : WE X (.Name "k" pos) (tVar 1) := wxv c rfl lk_exchanged_1 (by decide) (by decide)
theorem lk_exchanged_2 : (defScope s_exchanged).names.lookup ("steps" : Str) = some .local := by decide +kernel
theorem pv_exchanged_2 {X : Cx} (c : CxIs X ["chain", "k", "steps"] (defScope s_exchanged)) {pos : Pos} : WE X (.Name "steps" pos) (tVar 2) := wxv c rfl lk_exchanged_2 (by decide) (by decide)
theorem ss_exchanged_2 {X : Cx} (c : CxIs X ["chain", "k", "steps"] (defScope s_exchanged)) {pos pos' : Pos} {e : Expr} {te : TE} (he : WE X e te) (hs : swapsWith e (some (.Name "steps" pos')) pos.line X.env = pure false := by rfl) : WS X (.Assign [.Name "steps" pos'] e pos) (tAsg te (gN 2)) := wxs c sc_exchanged.nd rfl lk_exchanged_2 he hs
theorem gl_exchanged_list {X : Cx} (c : CxIs X ["chain", "k", "steps"] (defScope s_exchanged)) : Gl X "list" := xg c (by decide +kernel)
theorem gl_exchanged_len {X : Cx} (c : CxIs X ["chain", "k", "steps"] (defScope s_exchanged)) : Gl X "len" := xg c (by decide +kernel)
theorem gl_exchanged_NoPlace {X : Cx} (c : CxIs X ["chain", "k", "steps"] (defScope s_exchanged)) : Gl X "NoPlace" := xg c (by decide +kernel)
theorem st_exchanged (v0 v1 : V) : L2.start ["chain", "k", "steps"] [v0, v1] = [some v0, some v1, none] := rfl
noncomputable def sp_exchanged (K : PySem.W.Frag) : Sp := fun vs H Q E => ∃ (l : Addr) (as : List Addr) (sts : List StepD) (k : Int), vs = [.ref l, .int k] ∧ Chn K H l as sts ∧ sts.length ≤ 6 ∧
  (1 ≤ k ∧ k < (sts.length : Int) → ∀ l' as' H', Same H H' → H l' = none → H' l' = some (.lst (as'.map V.ref)) → Chn K H' l' as' (swapK sts k.toNat) → Q (.ref l') H') ∧
  (k < 1 ∨ (sts.length : Int) ≤ k → E (.ref (clsAt K "NoPlace")) none H)
theorem set_swap {α : Type} {l : List α} {k : Nat} (h1 : 1 ≤ k) (h2 : k < l.length) : (l.set (k - 1) l[k]).set k l[k - 1] = swapK l k := by
  rw [swap_eq h1 h2]
  refine List.ext_getElem? fun i => ?_
  rcases Nat.lt_trichotomy i (k - 1) with h | h | h
  · rw [List.getElem?_set_ne (by omega), List.getElem?_set_ne (by omega), List.append_assoc, List.getElem?_append_left (by rw [List.length_take]; omega), List.getElem?_take_of_lt h]
  · subst h
    rw [List.getElem?_set_ne (by omega), List.getElem?_set_self (by omega), List.append_assoc, List.getElem?_append_right (by rw [List.length_take]; omega), List.length_take, show k - 1 - min (k - 1) l.length = 0 by omega]
    rfl
  · by_cases hk : i = k
    · subst hk
      rw [List.getElem?_set_self (by rw [List.length_set]; omega), List.append_assoc, List.getElem?_append_right (by rw [List.length_take]; omega), List.length_take, show i - min (i - 1) l.length = 1 by omega]
      rfl
    · rw [List.getElem?_set_ne (by omega), List.getElem?_set_ne (by omega), List.getElem?_append_right (by rw [List.length_append, List.length_take]; show min (k - 1) l.length + 2 ≤ i; omega), List.getElem?_drop, List.length_append, List.length_take]
      show _ = l[k + 1 + (i - (min (k - 1) l.length + 2))]?
      rw [show k + 1 + (i - (min (k - 1) l.length + 2)) = i by omega]
theorem ixN_nat {n k : Nat} (h : k < n) : ixN n (k : Int) = some k := by
  unfold ixN
  rw [if_pos (by omega)]
  rw [if_pos (by omega), Int.toNat_natCast]
theorem body_exchanged {X : Cx} (c : CxIs X ["chain", "k", "steps"] (defScope s_exchanged)) (hr : Room 0 X.A) {E : XK} (dx : DefCx X) (px : PassesS (CX1 X.prog X.w) X (fun _ => E)) (rx : RaiseOk X E) (T_NoPlace : Txt_NoPlace X.K X.mg) (z_list : X.mg "list" = none) (z_len : X.mg "len" = none) {vs : List V} {H : Hp} {Q : VK} (h : sp_exchanged X.K vs H Q E) : ∃ t, WSs X (defBody s_exchanged) t ∧ t { nx := fun _ H' => Q .non H', rt := Q } (L2.start ["chain", "k", "steps"] vs) H := by
  · obtain ⟨l, as, sts, kk, rfl, hC, h6, q, qe⟩ := h
    refine ⟨_, (wss_cons (ws_if (WW.pt (ww_or (wt_cmpR op_lt (pv_exchanged_1 c) we_int (nomark _)) (ww_or1 (wt_cmpR op_ge (pv_exchanged_1 c) (we_callB call_len_seq (gl_exchanged_len c) z_len PySem.boot_len (wa_cons (pv_exchanged_0 c) wa_nil star_Name)) (nomark _)))))
      (wss_one (ws_raise rx c.calm dx.ex (gl_exchanged_NoPlace c) T_NoPlace.g T_NoPlace.q (wa_cons we_str wa_nil star_Constant)))
      wss_nil)
      (wss_cons (ss_exchanged_2 c (we_callTy call_list_ofO (gl_exchanged_list c) z_list boot_ty_list (wa_cons (pv_exchanged_0 c) wa_nil star_Name)))
      (wss_cons (ws_asg (we_ix ix_list (pv_exchanged_0 c) (pv_exchanged_1 c) plain_Name) (wg_sub (pv_exchanged_2 c) (we_op op_sub (pv_exchanged_1 c) we_int) set_list))
      (wss_cons (ws_asg (we_ix ix_list (pv_exchanged_0 c) (we_op op_sub (pv_exchanged_1 c) we_int) plain_BinOp) (wg_sub (pv_exchanged_2 c) (pv_exchanged_1 c) set_list))
      (wss_one (ws_ret (pv_exchanged_2 c))))))), ?_⟩
    rw [st_exchanged]
    have hlen0 : (as.map V.ref).length = sts.length := by rw [List.length_map, hC.len]
    by_cases b1 : kk < 1
    · refine ⟨_, rfl, _, _, rfl, rfl, _, rfl, ?_⟩
      refine ifT b1 ?_
      exact ⟨by show 1 ≤ _; decide, qe (.inl b1)⟩
    by_cases b2 : (sts.length : Int) ≤ kk
    · refine ⟨_, rfl, _, _, rfl, rfl, _, rfl, ?_⟩
      refine ifF (by omega) ?_
      refine ⟨_, rfl, _, rfl, _, _, rfl, .inl hC.lst, _, _, rfl, rfl, _, rfl, ?_⟩
      refine ifT (by rw [hlen0]; omega) ?_
      exact ⟨by show 1 ≤ _; decide, qe (.inr b2)⟩
    obtain ⟨k, rfl⟩ : ∃ k : Nat, kk = (k : Int) := ⟨kk.toNat, by omega⟩
    have k1 : 1 ≤ k := by omega
    have k2 : k < sts.length := by omega
    replace q := q ⟨by omega, by omega⟩
    rw [Int.toNat_natCast] at q
    have hlen : (as.map V.ref).length = sts.length := by rw [List.length_map, hC.len]
    have ka : k < as.length := by rw [hC.len]; exact k2
    have ka' : k - 1 < as.length := by omega
    refine ⟨_, rfl, _, _, rfl, rfl, _, rfl, ?_⟩
    refine ifF (by omega) ?_
    refine ⟨_, rfl, _, rfl, _, _, rfl, .inl hC.lst, _, _, rfl, rfl, _, rfl, ?_⟩
    refine ifF (by rw [hlen]; omega) ?_
    refine ⟨_, rfl, _, _, rfl, .inl hC.lst, fun p H1 n1 s1 f1 σ e => ?_⟩
    dsimp only [List.set] at e
    subst e
    have hC1 := hC.same s1
    have i1 : atI (as.map V.ref) (k : Int) = some (.ref as[k]) := atI_nat (by rw [List.getElem?_map, List.getElem?_eq_getElem ka]; rfl)
    have i2 : atI (as.map V.ref) ((k : Int) - 1) = some (.ref as[k - 1]) := by
      rw [show (k : Int) - 1 = ((k - 1 : Nat) : Int) by omega]
      exact atI_nat (by rw [List.getElem?_map, List.getElem?_eq_getElem ka']; rfl)
    have ix1 : ixN (as.map V.ref).length ((k : Int) - 1) = some (k - 1) := by
      rw [show (k : Int) - 1 = ((k - 1 : Nat) : Int) by omega]
      exact ixN_nat (by rw [List.length_map]; omega)
    refine ⟨_, rfl, _, rfl, l, _, _, _, rfl, rfl, hC1.lst, i1, _, rfl, _, rfl, _, _, rfl, rfl, p, _, _, k - 1, rfl, rfl, f1, ix1, ?_⟩
    have sA : Same H (L2.upd H1 p (.lst ((as.map V.ref).set (k - 1) (.ref as[k])))) := s1.drop n1 rfl
    have ix2 : ixN ((as.map V.ref).set (k - 1) (V.ref as[k])).length (k : Int) = some k := ixN_nat (by rw [List.length_set, List.length_map]; omega)
    refine ⟨_, rfl, _, rfl, _, _, rfl, rfl, l, _, _, _, rfl, rfl, (hC.same sA).lst, i2, _, rfl, _, rfl, p, _, _, k, rfl, rfl, upd_same, ix2, ?_⟩
    have sB : Same H (L2.upd (L2.upd H1 p (.lst ((as.map V.ref).set (k - 1) (.ref as[k])))) p (.lst (((as.map V.ref).set (k - 1) (.ref as[k])).set k (.ref as[k - 1])))) := sA.drop n1 rfl
    refine ⟨_, rfl, ?_⟩
    have ev : ((as.map V.ref).set (k - 1) (.ref as[k])).set k (.ref as[k - 1]) = (swapK as k).map V.ref := by
      rw [← set_swap k1 ka, List.map_set, List.map_set]
    have hf : (L2.upd (L2.upd H1 p (.lst ((as.map V.ref).set (k - 1) (.ref as[k])))) p (.lst (((as.map V.ref).set (k - 1) (.ref as[k])).set k (.ref as[k - 1])))) p = some (.lst ((swapK as k).map V.ref)) := by
      rw [upd_same, ev]
    have P := prd_same hC.prd sB
    refine q p (swapK as k) _ sB n1 hf (chn_prd hf ?_)
    rw [swap_eq k1 ka, swap_eq k1 k2]
    have g1 := prd_get P (List.getElem?_eq_getElem ka) (List.getElem?_eq_getElem k2)
    have g2 := prd_get P (List.getElem?_eq_getElem ka') (List.getElem?_eq_getElem (show k - 1 < sts.length by omega))
    exact prd_app (prd_app (prd_take _ P) (.cons g1 (.cons g2 .nil))) (prd_drop _ P)
theorem cal_exchanged {P : Program} {w : World} {K : PySem.W.Frag} {mg : Str → Option Value} {base : Heap} {f : Addr} {fd : FuncData} (F : Fun K "exchanged" "exchanged" s_exchanged f fd) (b : Binds K fd ["chain", "k"] []) (m : mg "exchanged" = some (.ref f)) (T_NoPlace : Txt_NoPlace K mg) (z_list : mg "list" = none) (z_len : mg "len" = none) : CalX P w K mg base "exchanged" 1 ["chain", "k"] (sp_exchanged K) :=
  ⟨f, fd, F.okX sc_exchanged (fun vs H Q E h => by first | (obtain ⟨_, rfl, _⟩ := h; rfl) | (obtain ⟨_, _, rfl, _⟩ := h; rfl) | (obtain ⟨_, _, _, rfl, _⟩ := h; rfl) | (obtain ⟨_, _, _, _, rfl, _⟩ := h; rfl) | (obtain ⟨_, _, _, _, _, rfl, _⟩ := h; rfl) | (obtain ⟨_, _, _, _, _, _, rfl, _⟩ := h; rfl) | (obtain ⟨_, _, _, _, _, _, _, rfl, _⟩ := h; rfl) | (obtain ⟨_, _, _, _, _, _, _, _, rfl, _⟩ := h; rfl) | (obtain ⟨_, _, _, _, _, _, _, _, _, rfl, _⟩ := h; rfl)) (fun cdv A outer s H vs Q E hr h => unW (body_exchanged (X := (cxOf (CX1 P w) P w K mg base ["chain", "k", "steps"] "exchanged" (defScope s_exchanged) f cdv A outer s H E)) ⟨rfl, rfl, rfl, PassesOwn.leaving⟩ hr ⟨rfl, rfl, rfl⟩ passX raiseX T_NoPlace z_list z_len h)), b, F.kp, m⟩
noncomputable def cell (ns : List Int) (k : Int) : Int := ns.getD k.toNat 0
noncomputable def sp_law_at (K : PySem.W.Frag) : Sp := fun vs H Q _ => ∃ (a : Addr) (ns : List Int) (k : Int), vs = [.ref a, .int k] ∧ SqL K H a (ns.map V.int) ∧ 0 ≤ k ∧ Q (.int (cell ns k)) H
theorem cal_law_at {P : Program} {w : World} {K : PySem.W.Frag} {mg : Str → Option Value} {base : Heap} {f : Addr} {fd : FuncData} (F : Fun K "_law_at" "_law_at" s_law_at f fd) (b : Binds K fd ["_law_script", "_law_k"] []) (m : mg "_law_at" = some (.ref f)) (z_len : mg "len" = none) : Cal P w K mg base "_law_at" 1 ["_law_script", "_law_k"] (sp_law_at K) := by
  refine ⟨f, fd, F.ok sc_law_at (fun vs H Q E h => ?_) (fun cdv A outer s H vs Q E hr h => ?_), b, F.kp, m⟩
  · first | (obtain ⟨_, rfl, _⟩ := h; rfl) | (obtain ⟨_, _, rfl, _⟩ := h; rfl) | (obtain ⟨_, _, _, rfl, _⟩ := h; rfl) | (obtain ⟨_, _, _, _, rfl, _⟩ := h; rfl) | (obtain ⟨_, _, _, _, _, rfl, _⟩ := h; rfl) | (obtain ⟨_, _, _, _, _, _, rfl, _⟩ := h; rfl) | (obtain ⟨_, _, _, _, _, _, _, rfl, _⟩ := h; rfl) | (obtain ⟨_, _, _, _, _, _, _, _, rfl, _⟩ := h; rfl) | (obtain ⟨_, _, _, _, _, _, _, _, _, rfl, _⟩ := h; rfl)
  · obtain ⟨a, ns, k, rfl, hS, h0, q⟩ := h
    have hl : (ns.map V.int).length = ns.length := List.length_map _
    refine ⟨_, (pss_cons (ps_if (pt_cmpR op_lt (pv 1) (pe_callB call_len_seq rfl z_len PySem.boot_len (pa_cons (pv 0) pa_nil)) (nomark _))
      (pss_one (ps_ret (pe_ix ix_list (pv 0) (pv 1) (fun _ _ => rfl))))
      pss_nil)
      (pss_one (ps_ret pe_int))), ?_⟩
    refine ⟨_, rfl, _, rfl, a, _, rfl, .inl hS, _, _, rfl, rfl, _, rfl, ?_⟩
    refine if2 (fun c => ?_) (fun c => ?_)
    · rw [hl] at c
      have hk : k.toNat < ns.length := by omega
      have e : cell ns k = ns[k.toNat] := by unfold cell; simp [List.getD, hk]
      have hv : atI (ns.map V.int) k = some (.int (cell ns k)) := by
        have q := atI_nat (xs := ns.map V.int) (j := k.toNat) (v := .int ns[k.toNat]) (by rw [List.getElem?_map, List.getElem?_eq_getElem hk]; rfl)
        rw [show ((k.toNat : Nat) : Int) = k by omega] at q
        rw [e]; exact q
      exact ⟨_, rfl, _, rfl, a, _, _, _, rfl, rfl, hS, hv, q⟩
    · rw [hl] at c
      have e : cell ns k = 0 := by unfold cell; simp [List.getD, show ns.length ≤ k.toNat by omega]
      rw [e] at q
      exact q
noncomputable def sp_law_whole (K : PySem.W.Frag) : Sp := fun vs H Q _ => ∃ (i : Int), vs = [.int i] ∧ Q (.bl true) H
theorem cal_law_whole {P : Program} {w : World} {K : PySem.W.Frag} {mg : Str → Option Value} {base : Heap} {f : Addr} {fd : FuncData} (F : Fun K "_law_whole" "_law_whole" s_law_whole f fd) (b : Binds K fd ["_law_found"] []) (m : mg "_law_whole" = some (.ref f)) (z_isinstance : mg "isinstance" = none) (z_int : mg "int" = none) (z_bool : mg "bool" = none) : Cal P w K mg base "_law_whole" 1 ["_law_found"] (sp_law_whole K) := by
  refine ⟨f, fd, F.ok sc_law_whole (fun vs H Q E h => ?_) (fun cdv A outer s H vs Q E hr h => ?_), b, F.kp, m⟩
  · first | (obtain ⟨_, rfl, _⟩ := h; rfl) | (obtain ⟨_, _, rfl, _⟩ := h; rfl) | (obtain ⟨_, _, _, rfl, _⟩ := h; rfl) | (obtain ⟨_, _, _, _, rfl, _⟩ := h; rfl) | (obtain ⟨_, _, _, _, _, rfl, _⟩ := h; rfl) | (obtain ⟨_, _, _, _, _, _, rfl, _⟩ := h; rfl) | (obtain ⟨_, _, _, _, _, _, _, rfl, _⟩ := h; rfl) | (obtain ⟨_, _, _, _, _, _, _, _, rfl, _⟩ := h; rfl) | (obtain ⟨_, _, _, _, _, _, _, _, _, rfl, _⟩ := h; rfl)
  · obtain ⟨i, rfl, q⟩ := h
    refine ⟨_, (pss_one (ps_ret (pe_and (pe_callB call_isinst rfl z_isinstance boot_isinstance (pa_cons (pv 0) (pa_cons (pe_bltn (v := .ty "int") rfl z_int boot_ty_int rfl) pa_nil))) (pe_one (pe_not (pe_callB call_isinst rfl z_isinstance boot_isinstance (pa_cons (pv 0) (pa_cons (pe_bltn (v := .ty "bool") rfl z_bool boot_ty_bool rfl) pa_nil)))))))), ?_⟩
    refine ⟨_, rfl, _, _, _, _, rfl, TyS.int, kit_int_int, _, rfl, ?_⟩
    refine iteT ?_
    exact ⟨_, rfl, _, _, _, _, rfl, TyS.int, kit_int_bool, _, rfl, q⟩
noncomputable def sp_law_gcd (K : PySem.W.Frag) : Sp := fun vs H Q _ => ∃ (x y : Int), vs = [.int x, .int y] ∧ 0 ≤ x ∧ 0 ≤ y ∧ Q (.int ((Int.gcd x y : Nat) : Int)) H
theorem cal_law_gcd {P : Program} {w : World} {K : PySem.W.Frag} {mg : Str → Option Value} {base : Heap} {f : Addr} {fd : FuncData} (F : Fun K "_law_gcd" "_law_gcd" s_law_gcd f fd) (b : Binds K fd ["_law_one", "_law_other"] []) (m : mg "_law_gcd" = some (.ref f))  : Cal P w K mg base "_law_gcd" 1 ["_law_one", "_law_other"] (sp_law_gcd K) := by
  refine ⟨f, fd, F.ok sc_law_gcd (fun vs H Q E h => ?_) (fun cdv A outer s H vs Q E hr h => ?_), b, F.kp, m⟩
  · first | (obtain ⟨_, rfl, _⟩ := h; rfl) | (obtain ⟨_, _, rfl, _⟩ := h; rfl) | (obtain ⟨_, _, _, rfl, _⟩ := h; rfl) | (obtain ⟨_, _, _, _, rfl, _⟩ := h; rfl) | (obtain ⟨_, _, _, _, _, rfl, _⟩ := h; rfl) | (obtain ⟨_, _, _, _, _, _, rfl, _⟩ := h; rfl) | (obtain ⟨_, _, _, _, _, _, _, rfl, _⟩ := h; rfl) | (obtain ⟨_, _, _, _, _, _, _, _, rfl, _⟩ := h; rfl) | (obtain ⟨_, _, _, _, _, _, _, _, _, rfl, _⟩ := h; rfl)
  · obtain ⟨x0, y0, rfl, h1, h2, q⟩ := h
    refine ⟨_, (pss_cons (ps_while PassesOwn.never (pt_cmpR op_gt (pv 1) pe_int (nomark _))
      (pss_one (ps_par (i := 0) (j := 1) rfl sc_law_gcd.nd rfl rfl (by decide) rfl rfl (pa_cons (pv 1) (pa_cons (pe_op op_mod (pv 0) (pv 1)) pa_nil)) rfl)))
      (pss_one (ps_ret (pv 0)))), ?_⟩
    refine while_by (fun σ H' => ∃ x y , σ = [some (.int x), some (.int y)] ∧ H' = H ∧ 0 ≤ x ∧ 0 ≤ y ∧ Int.gcd x y = Int.gcd x0 y0)
      (fun σ _ => match σ with | (_ :: some (.int y) :: _) => y.toNat | _ => 0) ⟨x0, y0, rfl, rfl, h1, h2, rfl⟩ ?_ ?_
    · rintro σ H' ⟨x, y, rfl, rfl, hx, hy, hg⟩
      refine ⟨_, rfl, _, _, rfl, rfl, _, rfl, ?_⟩
      refine if2 (fun c => ?_) (fun c => ?_)
      · have hm0 := md0 (x := x) c
        have hm1 := md1 (x := x) c
        refine ⟨_, rfl, _, rfl, _, rfl, _, _, rfl, rfl, c, _, _, rfl, ?_⟩
        refine ⟨⟨y, x % y, rfl, rfl, hy, hm0, by rw [gcd_turn hx c]; exact hg⟩, ?_⟩
        show (x % y).toNat < y.toNat
        omega
      · have e := gcd_end (y := y) hx (by omega)
        rw [← hg, ← e] at q
        exact ⟨_, rfl, q⟩
    · rintro σ H' R R' hq ⟨v, e, i, j, e1, e2, k, e3, h⟩
      exact ⟨v, e, i, j, e1, e2, k, e3, hq _ _ h⟩
theorem lk_law_step_0 : (defScope s_law_step).names.lookup ("_law_cell" : Str) = some .local := by decide +kernel
theorem pv_law_step_0 {X : Cx} (c : CxIs X ["_law_cell", "_law_size", "_law_most", "_law_units", "_law_word", "_law_left", "_law_bottom", "_law_top", "_law_unit", "_law_way", "_law_pennies"] (defScope s_law_step)) {pos : Pos} : WE X (.Name "_law_cell" pos) (tVar 0) := wxv c rfl lk_law_step_0 (by decide) (by decide)
theorem lk_law_step_1 : (defScope s_law_step).names.lookup ("_law_size" : Str) = some .local := by decide +kernel
theorem pv_law_step_1 {X : Cx} (c : CxIs X ["_law_cell", "_law_size", "_law_most", "_law_units", "_law_word", "_law_left", "_law_bottom", "_law_top", "_law_unit", "_law_way", "_law_pennies"] (defScope s_law_step)) {pos : Pos} : WE X (.Name "_law_size" pos) (tVar 1) := wxv c rfl lk_law_step_1 (by decide) (by decide)
theorem lk_law_step_2 : (defScope s_law_step).names.lookup ("_law_most" : Str) = some .local := by decide +kernel
theorem pv_law_step_2 {X : Cx} (c : CxIs X ["_law_cell", "_law_size", "_law_most", "_law_units", "_law_word", "_law_left", "_law_bottom", "_law_top", "_law_unit", "_law_way", "_law_pennies"] (defScope s_law_step)) {pos : Pos} : WE X (.Name "_law_most" pos) (tVar 2) := wxv c rfl lk_law_step_2 (by decide) (by decide)
theorem ss_law_step_2 {X : Cx} (c : CxIs X ["_law_cell", "_law_size", "_law_most", "_law_units", "_law_word", "_law_left", "_law_bottom", "_law_top", "_law_unit", "_law_way", "_law_pennies"] (defScope s_law_step)) {pos pos' : Pos} {e : Expr} {te : TE} (he : WE X e te) (hs : swapsWith e (some (.Name "_law_most" pos')) pos.line X.env = pure false := by rfl) : WS X (.Assign [.Name "_law_most" pos'] e pos) (tAsg te (gN 2)) := wxs c sc_law_step.nd rfl lk_law_step_2 he hs
theorem lk_law_step_3 : (defScope s_law_step).names.lookup ("_law_units" : Str) = some .local := by decide +kernel
theorem pv_law_step_3 {X : Cx} (c : CxIs X ["_law_cell", "_law_size", "_law_most", "_law_units", "_law_word", "_law_left", "_law_bottom", "_law_top", "_law_unit", "_law_way", "_law_pennies"] (defScope s_law_step)) {pos : Pos} : WE X (.Name "_law_units" pos) (tVar 3) := wxv c rfl lk_law_step_3 (by decide) (by decide)
theorem ss_law_step_3 {X : Cx} (c : CxIs X ["_law_cell", "_law_size", "_law_most", "_law_units", "_law_word", "_law_left", "_law_bottom", "_law_top", "_law_unit", "_law_way", "_law_pennies"] (defScope s_law_step)) {pos pos' : Pos} {e : Expr} {te : TE} (he : WE X e te) (hs : swapsWith e (some (.Name "_law_units" pos')) pos.line X.env = pure false := by rfl) : WS X (.Assign [.Name "_law_units" pos'] e pos) (tAsg te (gN 3)) := wxs c sc_law_step.nd rfl lk_law_step_3 he hs
theorem lk_law_step_4 : (defScope s_law_step).names.lookup ("_law_word" : Str) = some .local := by decide +kernel
theorem pv_law_step_4 {X : Cx} (c : CxIs X ["_law_cell", "_law_size", "_law_most", "_law_units", "_law_word", "_law_left", "_law_bottom", "_law_top", "_law_unit", "_law_way", "_law_pennies"] (defScope s_law_step)) {pos : Pos} : WE X (.Name "_law_word" pos) (tVar 4) := wxv c rfl lk_law_step_4 (by decide) (by decide)
theorem ss_law_step_4 {X : Cx} (c : CxIs X ["_law_cell", "_law_size", "_law_most", "_law_units", "_law_word", "_law_left", "_law_bottom", "_law_top", "_law_unit", "_law_way", "_law_pennies"] (defScope s_law_step)) {pos pos' : Pos} {e : Expr} {te : TE} (he : WE X e te) (hs : swapsWith e (some (.Name "_law_word" pos')) pos.line X.env = pure false := by rfl) : WS X (.Assign [.Name "_law_word" pos'] e pos) (tAsg te (gN 4)) := wxs c sc_law_step.nd rfl lk_law_step_4 he hs
theorem lk_law_step_5 : (defScope s_law_step).names.lookup ("_law_left" : Str) = some .local := by decide +kernel
theorem pv_law_step_5 {X : Cx} (c : CxIs X ["_law_cell", "_law_size", "_law_most", "_law_units", "_law_word", "_law_left", "_law_bottom", "_law_top", "_law_unit", "_law_way", "_law_pennies"] (defScope s_law_step)) {pos : Pos} : WE X (.Name "_law_left" pos) (tVar 5) := wxv c rfl lk_law_step_5 (by decide) (by decide)
theorem ss_law_step_5 {X : Cx} (c : CxIs X ["_law_cell", "_law_size", "_law_most", "_law_units", "_law_word", "_law_left", "_law_bottom", "_law_top", "_law_unit", "_law_way", "_law_pennies"] (defScope s_law_step)) {pos pos' : Pos} {e : Expr} {te : TE} (he : WE X e te) (hs : swapsWith e (some (.Name "_law_left" pos')) pos.line X.env = pure false := by rfl) : WS X (.Assign [.Name "_law_left" pos'] e pos) (tAsg te (gN 5)) := wxs c sc_law_step.nd rfl lk_law_step_5 he hs
theorem lk_law_step_6 : (defScope s_law_step).names.lookup ("_law_bottom" : Str) = some .local := by decide +kernel
theorem pv_law_step_6 {X : Cx} (c : CxIs X ["_law_cell", "_law_size", "_law_most", "_law_units", "_law_word", "_law_left", "_law_bottom", "_law_top", "_law_unit", "_law_way", "_law_pennies"] (defScope s_law_step)) {pos : Pos} : WE X (.Name "_law_bottom" pos) (tVar 6) := wxv c rfl lk_law_step_6 (by decide) (by decide)
theorem ss_law_step_6 {X : Cx} (c : CxIs X ["_law_cell", "_law_size", "_law_most", "_law_units", "_law_word", "_law_left", "_law_bottom", "_law_top", "_law_unit", "_law_way", "_law_pennies"] (defScope s_law_step)) {pos pos' : Pos} {e : Expr} {te : TE} (he : WE X e te) (hs : swapsWith e (some (.Name "_law_bottom" pos')) pos.line X.env = pure false := by rfl) : WS X (.Assign [.Name "_law_bottom" pos'] e pos) (tAsg te (gN 6)) := wxs c sc_law_step.nd rfl lk_law_step_6 he hs
theorem lk_law_step_7 : (defScope s_law_step).names.lookup ("_law_top" : Str) = some .local := by decide +kernel
theorem pv_law_step_7 {X : Cx} (c : CxIs X ["_law_cell", "_law_size", "_law_most", "_law_units", "_law_word", "_law_left", "_law_bottom", "_law_top", "_law_unit", "_law_way", "_law_pennies"] (defScope s_law_step)) {pos : Pos} : WE X (.Name "_law_top" pos) (tVar 7) := wxv c rfl lk_law_step_7 (by decide) (by decide)
theorem ss_law_step_7 {X : Cx} (c : CxIs X ["_law_cell", "_law_size", "_law_most", "_law_units", "_law_word", "_law_left", "_law_bottom", "_law_top", "_law_unit", "_law_way", "_law_pennies"] (defScope s_law_step)) {pos pos' : Pos} {e : Expr} {te : TE} (he : WE X e te) (hs : swapsWith e (some (.Name "_law_top" pos')) pos.line X.env = pure false := by rfl) : WS X (.Assign [.Name "_law_top" pos'] e pos) (tAsg te (gN 7)) := wxs c sc_law_step.nd rfl lk_law_step_7 he hs
theorem lk_law_step_8 : (defScope s_law_step).names.lookup ("_law_unit" : Str) = some .local := by decide +kernel
theorem pv_law_step_8 {X : Cx} (c : CxIs X ["_law_cell", "_law_size", "_law_most", "_law_units", "_law_word", "_law_left", "_law_bottom", "_law_top", "_law_unit", "_law_way", "_law_pennies"] (defScope s_law_step)) {pos : Pos} : WE X (.Name "_law_unit" pos) (tVar 8) := wxv c rfl lk_law_step_8 (by decide) (by decide)
theorem ss_law_step_8 {X : Cx} (c : CxIs X ["_law_cell", "_law_size", "_law_most", "_law_units", "_law_word", "_law_left", "_law_bottom", "_law_top", "_law_unit", "_law_way", "_law_pennies"] (defScope s_law_step)) {pos pos' : Pos} {e : Expr} {te : TE} (he : WE X e te) (hs : swapsWith e (some (.Name "_law_unit" pos')) pos.line X.env = pure false := by rfl) : WS X (.Assign [.Name "_law_unit" pos'] e pos) (tAsg te (gN 8)) := wxs c sc_law_step.nd rfl lk_law_step_8 he hs
theorem lk_law_step_9 : (defScope s_law_step).names.lookup ("_law_way" : Str) = some .local := by decide +kernel
theorem pv_law_step_9 {X : Cx} (c : CxIs X ["_law_cell", "_law_size", "_law_most", "_law_units", "_law_word", "_law_left", "_law_bottom", "_law_top", "_law_unit", "_law_way", "_law_pennies"] (defScope s_law_step)) {pos : Pos} : WE X (.Name "_law_way" pos) (tVar 9) := wxv c rfl lk_law_step_9 (by decide) (by decide)
theorem ss_law_step_9 {X : Cx} (c : CxIs X ["_law_cell", "_law_size", "_law_most", "_law_units", "_law_word", "_law_left", "_law_bottom", "_law_top", "_law_unit", "_law_way", "_law_pennies"] (defScope s_law_step)) {pos pos' : Pos} {e : Expr} {te : TE} (he : WE X e te) (hs : swapsWith e (some (.Name "_law_way" pos')) pos.line X.env = pure false := by rfl) : WS X (.Assign [.Name "_law_way" pos'] e pos) (tAsg te (gN 9)) := wxs c sc_law_step.nd rfl lk_law_step_9 he hs
theorem lk_law_step_10 : (defScope s_law_step).names.lookup ("_law_pennies" : Str) = some .local := by decide +kernel
theorem pv_law_step_10 {X : Cx} (c : CxIs X ["_law_cell", "_law_size", "_law_most", "_law_units", "_law_word", "_law_left", "_law_bottom", "_law_top", "_law_unit", "_law_way", "_law_pennies"] (defScope s_law_step)) {pos : Pos} : WE X (.Name "_law_pennies" pos) (tVar 10) := wxv c rfl lk_law_step_10 (by decide) (by decide)
theorem ss_law_step_10 {X : Cx} (c : CxIs X ["_law_cell", "_law_size", "_law_most", "_law_units", "_law_word", "_law_left", "_law_bottom", "_law_top", "_law_unit", "_law_way", "_law_pennies"] (defScope s_law_step)) {pos pos' : Pos} {e : Expr} {te : TE} (he : WE X e te) (hs : swapsWith e (some (.Name "_law_pennies" pos')) pos.line X.env = pure false := by rfl) : WS X (.Assign [.Name "_law_pennies" pos'] e pos) (tAsg te (gN 10)) := wxs c sc_law_step.nd rfl lk_law_step_10 he hs
theorem st_law_step (v0 v1 : V) : L2.start ["_law_cell", "_law_size", "_law_most", "_law_units", "_law_word", "_law_left", "_law_bottom", "_law_top", "_law_unit", "_law_way", "_law_pennies"] [v0, v1] = [some v0, some v1, none, none, none, none, none, none, none, none, none] := rfl
noncomputable def sp_law_step (K : PySem.W.Frag) : Sp := fun vs H Q _ => ∃ (cell size : Int), vs = [.int cell, .int size] ∧ 0 ≤ size ∧ size < 4 ∧ ∀ p (st : StepD) H', Same H H' → SqT K H' p st.vals → st.Ok → Q (.ref p) H'
theorem body_law_step {X : Cx} (c : CxIs X ["_law_cell", "_law_size", "_law_most", "_law_units", "_law_word", "_law_left", "_law_bottom", "_law_top", "_law_unit", "_law_way", "_law_pennies"] (defScope s_law_step)) (hr : Room 0 X.A) {E : XK}   {vs : List V} {H : Hp} {Q : VK} (h : sp_law_step X.K vs H Q E) : ∃ t, WSs X (defBody s_law_step) t ∧ t { nx := fun _ H' => Q .non H', rt := Q } (L2.start ["_law_cell", "_law_size", "_law_most", "_law_units", "_law_word", "_law_left", "_law_bottom", "_law_top", "_law_unit", "_law_way", "_law_pennies"] vs) H := by
  · obtain ⟨cell, size, rfl, h0, h1, q⟩ := h
    refine ⟨_, (wss_cons (ss_law_step_2 c (we_ix ix_list (we_lstO (wa_cons we_int (wa_cons we_int (wa_cons we_int (wa_cons we_int wa_nil star_Constant) star_Constant) star_Constant) star_Constant)) (pv_law_step_1 c) plain_Name))
      (wss_cons (ss_law_step_3 c (we_ix ix_list (we_lstO (wa_cons we_int (wa_cons we_int (wa_cons we_int (wa_cons we_int wa_nil star_Constant) star_Constant) star_Constant) star_Constant)) (pv_law_step_1 c) plain_Name))
      (wss_cons (ss_law_step_4 c (we_ix ix_list (we_lstO (wa_cons we_str (wa_cons we_str (wa_cons we_str wa_nil star_Constant) star_Constant) star_Constant)) (we_op op_mod (pv_law_step_0 c) we_int) plain_BinOp))
      (wss_cons (ss_law_step_5 c (we_op op_fdivB (pv_law_step_0 c) we_int))
      (wss_cons (ss_law_step_6 c (we_op op_add we_int (we_op op_mod (pv_law_step_5 c) (pv_law_step_2 c))))
      (wss_cons (ss_law_step_5 c (we_op op_fdivB (pv_law_step_5 c) (pv_law_step_2 c)))
      (wss_cons (ss_law_step_7 c (we_op op_add we_int (we_op op_mod (pv_law_step_5 c) (pv_law_step_2 c))))
      (wss_cons (ss_law_step_5 c (we_op op_fdivB (pv_law_step_5 c) (pv_law_step_2 c)))
      (wss_cons (ss_law_step_8 c (we_op op_add we_int (we_op op_mod (pv_law_step_5 c) (pv_law_step_3 c))))
      (wss_cons (ss_law_step_5 c (we_op op_fdivB (pv_law_step_5 c) (pv_law_step_3 c)))
      (wss_cons (ss_law_step_9 c (we_ix ix_list (we_lstO (wa_cons we_str (wa_cons we_str (wa_cons we_str wa_nil star_Constant) star_Constant) star_Constant)) (we_op op_mod (pv_law_step_5 c) we_int) plain_BinOp))
      (wss_cons (ss_law_step_5 c (we_op op_fdivB (pv_law_step_5 c) we_int))
      (wss_cons (ss_law_step_10 c (we_ix ix_list (we_lstO (wa_cons we_int (wa_cons (we_op op_mod (we_op op_fdivB (pv_law_step_5 c) we_int) (we_ix ix_list (we_lstO (wa_cons we_int (wa_cons we_int (wa_cons we_int (wa_cons (we_op op_add (we_op op_pow we_int we_int) we_int) wa_nil star_BinOp) star_Constant) star_Constant) star_Constant)) (pv_law_step_1 c) plain_Name)) wa_nil star_BinOp) star_Constant)) (we_op op_mod (pv_law_step_5 c) we_int) plain_BinOp))
      (wss_cons (ws_if (WW.pt (ww_and (wt_cmpR op_eq (pv_law_step_4 c) we_str (nomark _)) (ww_and1 (wt_cmpR op_eq (pv_law_step_6 c) we_int (nomark _)))))
      (wss_one (ss_law_step_4 c we_str))
      wss_nil)
      (wss_cons (ws_if (wt_cmpR op_eq (pv_law_step_4 c) we_str (nomark _))
      (wss_one (ss_law_step_7 c (we_op op_add we_int (we_op op_mod (we_op op_sub (pv_law_step_7 c) we_int) (we_op op_sub (pv_law_step_6 c) we_int)))))
      wss_nil)
      (wss_one (ws_ret (we_tupO (wa_cons (pv_law_step_4 c) (wa_cons (pv_law_step_7 c) (wa_cons (pv_law_step_6 c) (wa_cons (pv_law_step_10 c) (wa_cons (pv_law_step_9 c) (wa_cons (pv_law_step_8 c) wa_nil star_Name) star_Name) star_Name) star_Name) star_Name) star_Name))))))))))))))))))), ?_⟩
    rw [st_law_step]
    have dv3 : ∀ z : Int, CDivB z 3 := fun _ => ⟨by decide, by decide +kernel⟩
    refine ⟨(small' (by decide)), fun p1 H1 _ s1 f1 => ?_⟩
    refine ⟨_, rfl, p1, _, _, _, rfl, rfl, SqL.of f1, at4i h0 h1, fun σ e => ?_⟩
    have hm := pick4_of (P := fun z : Int => 1 ≤ z ∧ z ≤ 100) (i := size) (a := 4) (b := 12) (c := 100) (d := 100) (by decide) (by decide) (by decide) (by decide)
    dsimp only [List.set] at e
    generalize pick4 size (4 : Int) 12 100 100 = most at hm e
    subst e
    refine ⟨(small' (by decide)), fun p2 H2 _ t2 f2 => ?_⟩
    have s2 := s1.trans t2
    refine ⟨_, rfl, p2, _, _, _, rfl, rfl, SqL.of f2, at4i h0 h1, fun σ e => ?_⟩
    have hu := pick4_of (P := fun z : Int => 1 ≤ z ∧ z ≤ 100) (i := size) (a := 3) (b := 10) (c := 100) (d := 100) (by decide) (by decide) (by decide) (by decide)
    dsimp only [List.set] at e
    generalize pick4 size (3 : Int) 10 100 100 = units at hu e
    subst e
    refine ⟨(small' (by decide)), fun p3 H3 _ t3 f3 => ?_⟩
    have s3 := s2.trans t3
    refine ⟨_, rfl, _, _, rfl, rfl, (by decide : (0 : Int) < 3), p3, _, _, _, rfl, rfl, SqL.of f3, at3s (md0 (by decide)) (md1 (by decide)), fun σ e => ?_⟩
    have hw := pick3_of (P := fun z => z = Str.ofString "times" ∨ z = Str.ofString "add" ∨ z = Str.ofString "off") (i := cell % 3) (.inl rfl) (.inr (.inl rfl)) (.inr (.inr rfl))
    dsimp only [List.set] at e
    generalize pick3 (cell % 3) (Str.ofString "times") (Str.ofString "add") (Str.ofString "off") = word at hw e
    subst e
    refine ⟨_, rfl, _, _, rfl, rfl, dv3 _, fun σ e => ?_⟩
    dsimp only [List.set] at e
    generalize cell / 3 = l1 at e
    subst e
    refine ⟨_, rfl, _, rfl, _, _, rfl, rfl, (show 0 < most by omega), _, _, rfl, rfl, fun σ e => ?_⟩
    have b0 := md0 (x := l1) (n := most) (by omega)
    have b1 := md1 (x := l1) (n := most) (by omega)
    dsimp only [List.set] at e
    generalize l1 % most = bot at b0 b1 e
    subst e
    refine ⟨_, rfl, _, rfl, _, _, rfl, rfl, ⟨by omega, by omega⟩, fun σ e => ?_⟩
    dsimp only [List.set] at e
    generalize l1 / most = l2 at e
    subst e
    refine ⟨_, rfl, _, rfl, _, _, rfl, rfl, (show 0 < most by omega), _, _, rfl, rfl, fun σ e => ?_⟩
    have t0 := md0 (x := l2) (n := most) (by omega)
    have t1 := md1 (x := l2) (n := most) (by omega)
    dsimp only [List.set] at e
    generalize l2 % most = top' at t0 t1 e
    subst e
    refine ⟨_, rfl, _, rfl, _, _, rfl, rfl, ⟨by omega, by omega⟩, fun σ e => ?_⟩
    dsimp only [List.set] at e
    generalize l2 / most = l3 at e
    subst e
    refine ⟨_, rfl, _, rfl, _, _, rfl, rfl, (show 0 < units by omega), _, _, rfl, rfl, fun σ e => ?_⟩
    have u0 := md0 (x := l3) (n := units) (by omega)
    have u1 := md1 (x := l3) (n := units) (by omega)
    dsimp only [List.set] at e
    generalize l3 % units = un at u0 u1 e
    subst e
    refine ⟨_, rfl, _, rfl, _, _, rfl, rfl, ⟨by omega, by omega⟩, fun σ e => ?_⟩
    dsimp only [List.set] at e
    generalize l3 / units = l4 at e
    subst e
    refine ⟨(small' (by decide)), fun p4 H4 _ t4 f4 => ?_⟩
    have s4 := s3.trans t4
    refine ⟨_, rfl, _, _, rfl, rfl, (by decide : (0 : Int) < 3), p4, _, _, _, rfl, rfl, SqL.of f4, at3s (md0 (by decide)) (md1 (by decide)), fun σ e => ?_⟩
    have hy := pick3_of (P := fun z => z = Str.ofString "down" ∨ z = Str.ofString "up" ∨ z = Str.ofString "near") (i := l4 % 3) (.inl rfl) (.inr (.inl rfl)) (.inr (.inr rfl))
    dsimp only [List.set] at e
    generalize pick3 (l4 % 3) (Str.ofString "down") (Str.ofString "up") (Str.ofString "near") = way at hy e
    subst e
    refine ⟨_, rfl, _, _, rfl, rfl, dv3 _, fun σ e => ?_⟩
    dsimp only [List.set] at e
    generalize l4 / 3 = l5 at e
    subst e
    refine ⟨_, rfl, _, _, rfl, rfl, ⟨by decide, by decide +kernel⟩, _, _, rfl, rfl, ⟨by decide, by decide, by decide⟩, _, _, rfl, rfl, (small' (by decide)), fun p5 H5 _ t5 f5 => ?_⟩
    have s5 := s4.trans t5
    have hp := pick4_of (P := fun z : Int => 1 ≤ z ∧ z ≤ 10 ^ 30 + 1) (i := size) (a := 6) (b := 60) (c := 1000) (d := 10 ^ Int.toNat 30 + 1) (by decide) (by decide) (by decide) (by decide)
    refine ⟨_, rfl, p5, _, _, _, rfl, rfl, SqL.of f5, at4i h0 h1, _, _, rfl, rfl, Int.lt_of_lt_of_le (by decide) hp.1, (small' (by show 2 ≤ 1000; decide)), fun p6 H6 _ t6 f6 => ?_⟩
    have g0 := md0 (x := l5 / 2) (n := pick4 size (6 : Int) 60 1000 (10 ^ Int.toNat 30 + 1)) (by omega)
    have g1 := md1 (x := l5 / 2) (n := pick4 size (6 : Int) 60 1000 (10 ^ Int.toNat 30 + 1)) (by omega)
    have s6 := s5.trans t6
    refine ⟨_, rfl, _, _, rfl, rfl, (by decide : (0 : Int) < 2), p6, _, _, _, rfl, rfl, SqL.of f6, at2i (md0 (by decide)) (md1 (by decide)), fun σ e => ?_⟩
    have hpen := pick2_of (P := fun z : Int => 0 ≤ z ∧ z ≤ 10 ^ 30) (i := l5 % 2) (a := 0) (b := l5 / 2 % pick4 size (6 : Int) 60 1000 (10 ^ Int.toNat 30 + 1)) (by decide) ⟨g0, by omega⟩
    dsimp only [List.set] at e
    generalize pick2 (l5 % 2) (0 : Int) (l5 / 2 % pick4 size (6 : Int) 60 1000 (10 ^ Int.toNat 30 + 1)) = pen at hpen e
    subst e
    have key : ∀ (x : Str) (n : Int), (x = "times" ∨ x = "add" ∨ x = "off") → 1 ≤ n → n ≤ 100 → (x = "off" → n < 1 + bot) → StepD.Ok ⟨x, n, 1 + bot, pen, way, 1 + un⟩ := fun x n h1 h2 h3 h4 => ⟨h1, h2, h3, by dsimp only; omega, by dsimp only; omega, h4, hpen.1, hpen.2, hy, by dsimp only; omega, by dsimp only; omega⟩
    refine ⟨_, rfl, rfl, _, rfl, ?_⟩
    refine if2 (fun c => ?_) (fun c => ?_)
    · have c' : word = "off" := V.str.inj c
      refine ⟨_, rfl, rfl, _, rfl, ?_⟩
      refine if2 (fun d => ?_) (fun d => ?_)
      · intro σ e
        dsimp only [List.set] at e
        subst e
        refine ⟨_, rfl, rfl, _, rfl, ?_⟩
        refine ifF (by decide) ?_
        refine ⟨_, rfl, _, rfl, _, rfl, _, rfl, _, rfl, _, rfl, (small' (by show 6 ≤ 1000; decide)), fun p7 H7 _ t7 f7 => ?_⟩
        exact q p7 ⟨_, _, _, _, _, _⟩ _ (s6.trans t7) (SqT.of f7) (key _ _ (.inl rfl) (by omega) (by omega) (fun z => absurd z (by decide)))
      · have d' := of_not_int d
        refine ⟨_, rfl, rfl, _, rfl, ?_⟩
        refine ifT c ?_
        have w0 := md0 (x := 1 + top' - 1) (n := 1 + bot - 1) (by omega)
        have w1 := md1 (x := 1 + top' - 1) (n := 1 + bot - 1) (by omega)
        refine ⟨_, rfl, _, _, rfl, rfl, _, rfl, _, _, rfl, rfl, _, _, rfl, rfl, (show 0 < 1 + bot - 1 by omega), _, _, rfl, rfl, fun σ e => ?_⟩
        dsimp only [List.set] at e
        subst e
        refine ⟨_, rfl, _, rfl, _, rfl, _, rfl, _, rfl, _, rfl, (small' (by show 6 ≤ 1000; decide)), fun p7 H7 _ t7 f7 => ?_⟩
        exact q p7 ⟨_, _, _, _, _, _⟩ _ (s6.trans t7) (SqT.of f7) (key _ _ hw (by omega) (by omega) (fun _ => by omega))
    · refine ⟨_, rfl, rfl, _, rfl, ?_⟩
      refine ifF c ?_
      refine ⟨_, rfl, _, rfl, _, rfl, _, rfl, _, rfl, _, rfl, (small' (by show 6 ≤ 1000; decide)), fun p7 H7 _ t7 f7 => ?_⟩
      exact q p7 ⟨_, _, _, _, _, _⟩ _ (s6.trans t7) (SqT.of f7) (key _ _ hw (by omega) (by omega) (fun z => absurd (by rw [z]) c))
theorem cal_law_step {P : Program} {w : World} {K : PySem.W.Frag} {mg : Str → Option Value} {base : Heap} {f : Addr} {fd : FuncData} (F : Fun K "_law_step" "_law_step" s_law_step f fd) (b : Binds K fd ["_law_cell", "_law_size"] []) (m : mg "_law_step" = some (.ref f))  : Cal P w K mg base "_law_step" 1 ["_law_cell", "_law_size"] (sp_law_step K) :=
  ⟨f, fd, F.ok sc_law_step (fun vs H Q E h => by first | (obtain ⟨_, rfl, _⟩ := h; rfl) | (obtain ⟨_, _, rfl, _⟩ := h; rfl) | (obtain ⟨_, _, _, rfl, _⟩ := h; rfl) | (obtain ⟨_, _, _, _, rfl, _⟩ := h; rfl) | (obtain ⟨_, _, _, _, _, rfl, _⟩ := h; rfl) | (obtain ⟨_, _, _, _, _, _, rfl, _⟩ := h; rfl) | (obtain ⟨_, _, _, _, _, _, _, rfl, _⟩ := h; rfl) | (obtain ⟨_, _, _, _, _, _, _, _, rfl, _⟩ := h; rfl) | (obtain ⟨_, _, _, _, _, _, _, _, _, rfl, _⟩ := h; rfl)) (fun cdv A outer s H vs Q E hr h => unW (body_law_step (X := (cxOf CX0 P w K mg base ["_law_cell", "_law_size", "_law_most", "_law_units", "_law_word", "_law_left", "_law_bottom", "_law_top", "_law_unit", "_law_way", "_law_pennies"] "_law_step" (defScope s_law_step) f cdv A outer s H E).nox) ⟨rfl, rfl, rfl, PassesOwn.never⟩ hr  h)), b, F.kp, m⟩
noncomputable def sp_law_num (K : PySem.W.Frag) : Sp := fun vs H Q _ => ∃ (a : Addr) (st : StepD), vs = [.ref a] ∧ SqT K H a st.vals ∧ Q (.int st.num) H
theorem cal_law_num {P : Program} {w : World} {K : PySem.W.Frag} {mg : Str → Option Value} {base : Heap} {f : Addr} {fd : FuncData} (F : Fun K "_law_num" "_law_num" s_law_num f fd) (b : Binds K fd ["_law_step_here"] []) (m : mg "_law_num" = some (.ref f))  : Cal P w K mg base "_law_num" 1 ["_law_step_here"] (sp_law_num K) := by
  refine ⟨f, fd, F.ok sc_law_num (fun vs H Q E h => ?_) (fun cdv A outer s H vs Q E hr h => ?_), b, F.kp, m⟩
  · first | (obtain ⟨_, rfl, _⟩ := h; rfl) | (obtain ⟨_, _, rfl, _⟩ := h; rfl) | (obtain ⟨_, _, _, rfl, _⟩ := h; rfl) | (obtain ⟨_, _, _, _, rfl, _⟩ := h; rfl) | (obtain ⟨_, _, _, _, _, rfl, _⟩ := h; rfl) | (obtain ⟨_, _, _, _, _, _, rfl, _⟩ := h; rfl) | (obtain ⟨_, _, _, _, _, _, _, rfl, _⟩ := h; rfl) | (obtain ⟨_, _, _, _, _, _, _, _, rfl, _⟩ := h; rfl) | (obtain ⟨_, _, _, _, _, _, _, _, _, rfl, _⟩ := h; rfl)
  · obtain ⟨a, st, rfl, hT, q⟩ := h
    refine ⟨_, (pss_cons (ps_if (pt_cmpR op_eq (pe_ix ix_tup (pv 0) pe_int (fun _ _ => rfl)) pe_str (nomark _))
      (pss_one (ps_ret (pe_op op_add (pe_ix ix_tup (pv 0) pe_int (fun _ _ => rfl)) (pe_ix ix_tup (pv 0) pe_int (fun _ _ => rfl)))))
      pss_nil)
      (pss_cons (ps_if (pt_cmpR op_eq (pe_ix ix_tup (pv 0) pe_int (fun _ _ => rfl)) pe_str (nomark _))
      (pss_one (ps_ret (pe_op op_sub (pe_ix ix_tup (pv 0) pe_int (fun _ _ => rfl)) (pe_ix ix_tup (pv 0) pe_int (fun _ _ => rfl)))))
      pss_nil)
      (pss_one (ps_ret (pe_ix ix_tup (pv 0) pe_int (fun _ _ => rfl)))))), ?_⟩
    refine ⟨_, rfl, a, _, _, _, rfl, rfl, hT, rfl, rfl, _, rfl, ?_⟩
    refine if2 (fun c => ?_) (fun c => ?_)
    · have e : st.num = st.d + st.n := if_pos (V.str.inj c)
      rw [e] at q
      exact ⟨_, rfl, a, _, _, _, rfl, rfl, hT, rfl, _, rfl, a, _, _, _, rfl, rfl, hT, rfl, _, _, rfl, rfl, q⟩
    have c' : ¬ st.w = "add" := fun z => c (by rw [z])
    refine ⟨_, rfl, a, _, _, _, rfl, rfl, hT, rfl, rfl, _, rfl, ?_⟩
    refine if2 (fun c2 => ?_) (fun c2 => ?_)
    · have e : st.num = st.d - st.n := by unfold StepD.num; rw [if_neg c', if_pos (V.str.inj c2)]
      rw [e] at q
      exact ⟨_, rfl, a, _, _, _, rfl, rfl, hT, rfl, _, rfl, a, _, _, _, rfl, rfl, hT, rfl, _, _, rfl, rfl, q⟩
    · have c2' : ¬ st.w = "off" := fun z => c2 (by rw [z])
      have e : st.num = st.n := by unfold StepD.num; rw [if_neg c', if_neg c2']
      rw [e] at q
      exact ⟨_, rfl, a, _, _, _, rfl, rfl, hT, rfl, q⟩
theorem lk_may_exchange_0 : (defScope s_may_exchange).names.lookup ("chain" : Str) = some .local := by decide +kernel
theorem pv_may_exchange_0 {X : Cx} (c : CxIs X ["chain", "k"] (defScope s_may_exchange)) {pos : Pos} : WE X (.Name "chain" pos) (tVar 0) := wxv c rfl lk_may_exchange_0 (by decide) (by decide)
theorem lk_may_exchange_1 : (defScope s_may_exchange).names.lookup ("k" : Str) = some .local := by decide +kernel
theorem pv_may_exchange_1 {X : Cx} (c : CxIs X ["chain", "k"] (defScope s_may_exchange)) {pos : Pos} : WE X (.Name "k" pos) (tVar 1) := wxv c rfl lk_may_exchange_1 (by decide) (by decide)
theorem gl_may_exchange_alike {X : Cx} (c : CxIs X ["chain", "k"] (defScope s_may_exchange)) : Gl X "alike" := xg c (by decide +kernel)
theorem gl_may_exchange_exchanged {X : Cx} (c : CxIs X ["chain", "k"] (defScope s_may_exchange)) : Gl X "exchanged" := xg c (by decide +kernel)
theorem st_may_exchange (v0 v1 : V) : L2.start ["chain", "k"] [v0, v1] = [some v0, some v1] := rfl
noncomputable def sp_may_exchange (K : PySem.W.Frag) : Sp := fun vs H Q E => ∃ (l : Addr) (as : List Addr) (sts : List StepD) (k : Int), vs = [.ref l, .int k] ∧ Chn K H l as sts ∧ sts.length ≤ 6 ∧ (k < 1 ∨ (sts.length : Int) ≤ k) ∧ E (.ref (clsAt K "NoPlace")) none H
theorem body_may_exchange {X : Cx} (c : CxIs X ["chain", "k"] (defScope s_may_exchange)) (hr : Room 1 X.A) {E : XK} (dx : DefCx X) (px : PassesS (CX1 X.prog X.w) X (fun _ => E)) (rx : RaiseOk X E) (C_alike : Cal X.prog X.w X.K X.mg X.base "alike" 1 ["one", "other"] (sp_alike X.K)) (C_exchanged : CalX X.prog X.w X.K X.mg X.base "exchanged" 1 ["chain", "k"] (sp_exchanged X.K)) {vs : List V} {H : Hp} {Q : VK} (h : sp_may_exchange X.K vs H Q E) : ∃ t, WSs X (defBody s_may_exchange) t ∧ t { nx := fun _ H' => Q .non H', rt := Q } (L2.start ["chain", "k"] vs) H := by
  obtain ⟨f_alike, d_alike, G_alike, b_alike, k_alike, m_alike⟩ := C_alike
  obtain ⟨f_exchanged, d_exchanged, G_exchanged, b_exchanged, k_exchanged, m_exchanged⟩ := C_exchanged
  · obtain ⟨l, as, sts, k, rfl, hC, h6, hk, q⟩ := h
    refine ⟨_, (wss_one (ws_ret (we_call (G_alike.mono (by decide)) hr (gl_may_exchange_alike c) m_alike k_alike b_alike .nil pass0 (wa_cons (pv_may_exchange_0 c) (wa_cons (we_callS (G_exchanged.mono (by decide)) hr (gl_may_exchange_exchanged c) m_exchanged k_exchanged b_exchanged .nil px (wa_cons (pv_may_exchange_0 c) (wa_cons (pv_may_exchange_1 c) wa_nil star_Name) star_Name)) wa_nil star_Call) star_Name)))), ?_⟩
    rw [st_may_exchange]
    exact ⟨_, rfl, _, rfl, _, rfl, l, as, sts, k, rfl, hC, h6, fun ⟨a, b⟩ => by omega, fun _ => q⟩
theorem cal_may_exchange {P : Program} {w : World} {K : PySem.W.Frag} {mg : Str → Option Value} {base : Heap} {f : Addr} {fd : FuncData} (F : Fun K "may_exchange" "may_exchange" s_may_exchange f fd) (b : Binds K fd ["chain", "k"] []) (m : mg "may_exchange" = some (.ref f)) (C_alike : Cal P w K mg base "alike" 1 ["one", "other"] (sp_alike K)) (C_exchanged : CalX P w K mg base "exchanged" 1 ["chain", "k"] (sp_exchanged K)) : CalX P w K mg base "may_exchange" 2 ["chain", "k"] (sp_may_exchange K) :=
  ⟨f, fd, F.okX sc_may_exchange (fun vs H Q E h => by first | (obtain ⟨_, rfl, _⟩ := h; rfl) | (obtain ⟨_, _, rfl, _⟩ := h; rfl) | (obtain ⟨_, _, _, rfl, _⟩ := h; rfl) | (obtain ⟨_, _, _, _, rfl, _⟩ := h; rfl) | (obtain ⟨_, _, _, _, _, rfl, _⟩ := h; rfl) | (obtain ⟨_, _, _, _, _, _, rfl, _⟩ := h; rfl) | (obtain ⟨_, _, _, _, _, _, _, rfl, _⟩ := h; rfl) | (obtain ⟨_, _, _, _, _, _, _, _, rfl, _⟩ := h; rfl) | (obtain ⟨_, _, _, _, _, _, _, _, _, rfl, _⟩ := h; rfl)) (fun cdv A outer s H vs Q E hr h => unW (body_may_exchange (X := (cxOf (CX1 P w) P w K mg base ["chain", "k"] "may_exchange" (defScope s_may_exchange) f cdv A outer s H E)) ⟨rfl, rfl, rfl, PassesOwn.leaving⟩ hr ⟨rfl, rfl, rfl⟩ passX raiseX C_alike C_exchanged h)), b, F.kp, m⟩
noncomputable def mixI (c k : Int) : Int := ((c + 7 * k + 1) * 48271 % 2147483647 + k) * 69621 % 2147483647
noncomputable def drawAt (ns : List Int) (k : Int) : Int := if cell ns 0 % 2 = 1 then mixI (cell ns k) k else cell ns k
noncomputable def BitsOk (ns : List Int) : Prop := ∀ z ∈ ns, Builtin.Int.intBits z ≤ 1048576
noncomputable def sp_law_draw (K : PySem.W.Frag) : Sp := fun vs H Q _ => ∃ (a : Addr) (ns : List Int) (k : Int), vs = [.ref a, .int k] ∧ SqL K H a (ns.map V.int) ∧ 0 ≤ k ∧ k ≤ 1000 ∧ Q (.int (drawAt ns k)) H
theorem cal_law_draw {P : Program} {w : World} {K : PySem.W.Frag} {mg : Str → Option Value} {base : Heap} {f : Addr} {fd : FuncData} (F : Fun K "_law_draw" "_law_draw" s_law_draw f fd) (b : Binds K fd ["_law_script", "_law_k"] []) (m : mg "_law_draw" = some (.ref f)) (C_law_at : Cal P w K mg base "_law_at" 1 ["_law_script", "_law_k"] (sp_law_at K)) : Cal P w K mg base "_law_draw" 2 ["_law_script", "_law_k"] (sp_law_draw K) := by
  obtain ⟨f_law_at, d_law_at, G_law_at, b_law_at, k_law_at, m_law_at⟩ := C_law_at
  refine ⟨f, fd, F.ok sc_law_draw (fun vs H Q E h => ?_) (fun cdv A outer s H vs Q E hr h => ?_), b, F.kp, m⟩
  · first | (obtain ⟨_, rfl, _⟩ := h; rfl) | (obtain ⟨_, _, rfl, _⟩ := h; rfl) | (obtain ⟨_, _, _, rfl, _⟩ := h; rfl) | (obtain ⟨_, _, _, _, rfl, _⟩ := h; rfl) | (obtain ⟨_, _, _, _, _, rfl, _⟩ := h; rfl) | (obtain ⟨_, _, _, _, _, _, rfl, _⟩ := h; rfl) | (obtain ⟨_, _, _, _, _, _, _, rfl, _⟩ := h; rfl) | (obtain ⟨_, _, _, _, _, _, _, _, rfl, _⟩ := h; rfl) | (obtain ⟨_, _, _, _, _, _, _, _, _, rfl, _⟩ := h; rfl)
  · obtain ⟨a, ns, k, rfl, hS, h0, h1, q⟩ := h
    refine ⟨_, (pss_cons (ps_set (i := 2) sc_law_draw.nd rfl (Or.inl rfl) (pe_call (G_law_at.mono (by decide)) hr rfl m_law_at k_law_at b_law_at .nil pass0 (pa_cons (pv 0) (pa_cons (pv 1) pa_nil))))
      (pss_cons (ps_if (pt_cmpR op_eq (pe_op op_mod (pe_call (G_law_at.mono (by decide)) hr rfl m_law_at k_law_at b_law_at .nil pass0 (pa_cons (pv 0) (pa_cons pe_int pa_nil))) pe_int) pe_int (nomark _))
      (pss_one (ps_set (i := 2) sc_law_draw.nd rfl (Or.inl rfl) (pe_op op_mod (pe_op op_mulB (pe_op op_add (pe_op op_mod (pe_op op_mulB (pe_op op_add (pe_op op_add (pv 2) (pe_op op_mulB pe_int (pv 1))) pe_int) pe_int) pe_int) (pv 1)) pe_int) pe_int)))
      pss_nil)
      (pss_one (ps_ret (pv 2))))), ?_⟩
    refine ⟨_, rfl, _, rfl, a, ns, _, rfl, hS, h0, ?_⟩
    refine ⟨_, rfl, a, ns, _, rfl, hS, by decide, _, _, rfl, rfl, (by decide : (0 : Int) < 2), rfl, _, rfl, ?_⟩
    refine if2 (fun c => ?_) (fun c => ?_)
    · have e : drawAt ns k = mixI (cell ns k) k := if_pos (of_int c)
      rw [e] at q
      exact ⟨_, rfl, _, rfl, _, _, rfl, rfl, mul_l (by decide) (by decide), _, _, rfl, rfl, _, _, rfl, rfl, _, _, rfl, rfl, mul_r (by decide) (by decide), _, _, rfl, rfl, (by decide : (0 : Int) < 2147483647), _, rfl, _, _, rfl, rfl, _, _, rfl, rfl, mul_r (by decide) (by decide), _, _, rfl, rfl, (by decide : (0 : Int) < 2147483647), _, rfl, q⟩
    · have e : drawAt ns k = cell ns k := if_neg fun z => c (inj_int z)
      rw [e] at q
      exact ⟨_, rfl, q⟩
theorem lk_law_own_0 : (defScope s_law_own).names.lookup ("_law_step_here" : Str) = some .local := by decide +kernel
theorem pv_law_own_0 {X : Cx} (c : CxIs X ["_law_step_here", "_law_wide"] (defScope s_law_own)) {pos : Pos} : WE X (.Name "_law_step_here" pos) (tVar 0) := wxv c rfl lk_law_own_0 (by decide) (by decide)
theorem lk_law_own_1 : (defScope s_law_own).names.lookup ("_law_wide" : Str) = some .local := by decide +kernel
theorem pv_law_own_1 {X : Cx} (c : CxIs X ["_law_step_here", "_law_wide"] (defScope s_law_own)) {pos : Pos} : WE X (.Name "_law_wide" pos) (tVar 1) := wxv c rfl lk_law_own_1 (by decide) (by decide)
theorem ss_law_own_1 {X : Cx} (c : CxIs X ["_law_step_here", "_law_wide"] (defScope s_law_own)) {pos pos' : Pos} {e : Expr} {te : TE} (he : WE X e te) (hs : swapsWith e (some (.Name "_law_wide" pos')) pos.line X.env = pure false := by rfl) : WS X (.Assign [.Name "_law_wide" pos'] e pos) (tAsg te (gN 1)) := wxs c sc_law_own.nd rfl lk_law_own_1 he hs
theorem gl_law_own_law_gcd {X : Cx} (c : CxIs X ["_law_step_here", "_law_wide"] (defScope s_law_own)) : Gl X "_law_gcd" := xg c (by decide +kernel)
theorem gl_law_own_law_num {X : Cx} (c : CxIs X ["_law_step_here", "_law_wide"] (defScope s_law_own)) : Gl X "_law_num" := xg c (by decide +kernel)
theorem st_law_own (v0 : V) : L2.start ["_law_step_here", "_law_wide"] [v0] = [some v0, none] := rfl
noncomputable def sp_law_own (K : PySem.W.Frag) : Sp := fun vs H Q _ => ∃ (a : Addr) (st : StepD), vs = [.ref a] ∧ SqT K H a st.vals ∧ st.Ok ∧ Q (.int st.cyc) H
theorem body_law_own {X : Cx} (c : CxIs X ["_law_step_here", "_law_wide"] (defScope s_law_own)) (hr : Room 1 X.A) {E : XK}  (C_law_gcd : Cal X.prog X.w X.K X.mg X.base "_law_gcd" 1 ["_law_one", "_law_other"] (sp_law_gcd X.K)) (C_law_num : Cal X.prog X.w X.K X.mg X.base "_law_num" 1 ["_law_step_here"] (sp_law_num X.K)) {vs : List V} {H : Hp} {Q : VK} (h : sp_law_own X.K vs H Q E) : ∃ t, WSs X (defBody s_law_own) t ∧ t { nx := fun _ H' => Q .non H', rt := Q } (L2.start ["_law_step_here", "_law_wide"] vs) H := by
  obtain ⟨f_law_gcd, d_law_gcd, G_law_gcd, b_law_gcd, k_law_gcd, m_law_gcd⟩ := C_law_gcd
  obtain ⟨f_law_num, d_law_num, G_law_num, b_law_num, k_law_num, m_law_num⟩ := C_law_num
  · obtain ⟨a, st, rfl, hT, hO, q⟩ := h
    refine ⟨_, (wss_cons (ss_law_own_1 c (we_op op_mulB (we_ix ix_tup (pv_law_own_0 c) we_int plain_Constant) (we_ix ix_tup (pv_law_own_0 c) we_int plain_Constant)))
      (wss_one (ws_ret (we_op op_fdivB (pv_law_own_1 c) (we_call (G_law_gcd.mono (by decide)) hr (gl_law_own_law_gcd c) m_law_gcd k_law_gcd b_law_gcd .nil pass0 (wa_cons (we_call (G_law_num.mono (by decide)) hr (gl_law_own_law_num c) m_law_num k_law_num b_law_num .nil pass0 (wa_cons (pv_law_own_0 c) wa_nil star_Name)) (wa_cons (pv_law_own_1 c) wa_nil star_Name) star_Call)))))), ?_⟩
    rw [st_law_own]
    have u0 := hO.u0
    have u1 := hO.u1
    have w0 := hO.wide0
    have w1 := hO.wide1
    have n0 := hO.num0
    have g0 := hO.cg0
    have g1 : st.cg ≤ st.wide := gcd_le w0
    refine ⟨_, rfl, a, _, _, _, rfl, rfl, hT, rfl, _, rfl, a, _, _, _, rfl, rfl, hT, rfl, _, _, rfl, rfl, mul_r (by omega) (by omega), fun σ e => ?_⟩
    dsimp only [List.set] at e
    subst e
    exact ⟨_, rfl, _, rfl, a, st, rfl, hT, _, rfl, _, _, rfl, (by omega), Int.le_of_lt w0, _, _, rfl, rfl, ⟨g0, Int.lt_of_le_of_lt g1 (Int.lt_of_le_of_lt w1 (by decide +kernel))⟩, q⟩
theorem cal_law_own {P : Program} {w : World} {K : PySem.W.Frag} {mg : Str → Option Value} {base : Heap} {f : Addr} {fd : FuncData} (F : Fun K "_law_own" "_law_own" s_law_own f fd) (b : Binds K fd ["_law_step_here"] []) (m : mg "_law_own" = some (.ref f)) (C_law_gcd : Cal P w K mg base "_law_gcd" 1 ["_law_one", "_law_other"] (sp_law_gcd K)) (C_law_num : Cal P w K mg base "_law_num" 1 ["_law_step_here"] (sp_law_num K)) : Cal P w K mg base "_law_own" 2 ["_law_step_here"] (sp_law_own K) :=
  ⟨f, fd, F.ok sc_law_own (fun vs H Q E h => by first | (obtain ⟨_, rfl, _⟩ := h; rfl) | (obtain ⟨_, _, rfl, _⟩ := h; rfl) | (obtain ⟨_, _, _, rfl, _⟩ := h; rfl) | (obtain ⟨_, _, _, _, rfl, _⟩ := h; rfl) | (obtain ⟨_, _, _, _, _, rfl, _⟩ := h; rfl) | (obtain ⟨_, _, _, _, _, _, rfl, _⟩ := h; rfl) | (obtain ⟨_, _, _, _, _, _, _, rfl, _⟩ := h; rfl) | (obtain ⟨_, _, _, _, _, _, _, _, rfl, _⟩ := h; rfl) | (obtain ⟨_, _, _, _, _, _, _, _, _, rfl, _⟩ := h; rfl)) (fun cdv A outer s H vs Q E hr h => unW (body_law_own (X := (cxOf CX0 P w K mg base ["_law_step_here", "_law_wide"] "_law_own" (defScope s_law_own) f cdv A outer s H E).nox) ⟨rfl, rfl, rfl, PassesOwn.never⟩ hr C_law_gcd C_law_num h)), b, F.kp, m⟩
theorem lk_law_same_step_0 : (defScope s_law_same_step).names.lookup ("_law_found" : Str) = some .local := by decide +kernel
theorem pv_law_same_step_0 {X : Cx} (c : CxIs X ["_law_found", "_law_step_here", "_law_k"] (defScope s_law_same_step)) {pos : Pos} : WE X (.Name "_law_found" pos) (tVar 0) := wxv c rfl lk_law_same_step_0 (by decide) (by decide)
theorem lk_law_same_step_1 : (defScope s_law_same_step).names.lookup ("_law_step_here" : Str) = some .local := by decide +kernel
theorem pv_law_same_step_1 {X : Cx} (c : CxIs X ["_law_found", "_law_step_here", "_law_k"] (defScope s_law_same_step)) {pos : Pos} : WE X (.Name "_law_step_here" pos) (tVar 1) := wxv c rfl lk_law_same_step_1 (by decide) (by decide)
theorem lk_law_same_step_2 : (defScope s_law_same_step).names.lookup ("_law_k" : Str) = some .local := by decide +kernel
theorem pv_law_same_step_2 {X : Cx} (c : CxIs X ["_law_found", "_law_step_here", "_law_k"] (defScope s_law_same_step)) {pos : Pos} : WE X (.Name "_law_k" pos) (tVar 2) := wxv c rfl lk_law_same_step_2 (by decide) (by decide)
theorem sg_law_same_step_2 {X : Cx} (c : CxIs X ["_law_found", "_law_step_here", "_law_k"] (defScope s_law_same_step)) {pos : Pos} : WG X (.Name "_law_k" pos) (gN 2) := wxt c sc_law_same_step.nd rfl lk_law_same_step_2
theorem gl_law_same_step_law_whole {X : Cx} (c : CxIs X ["_law_found", "_law_step_here", "_law_k"] (defScope s_law_same_step)) : Gl X "_law_whole" := xg c (by decide +kernel)
theorem gl_law_same_step_range {X : Cx} (c : CxIs X ["_law_found", "_law_step_here", "_law_k"] (defScope s_law_same_step)) : Gl X "range" := xg c (by decide +kernel)
theorem gl_law_same_step_isinstance {X : Cx} (c : CxIs X ["_law_found", "_law_step_here", "_law_k"] (defScope s_law_same_step)) : Gl X "isinstance" := xg c (by decide +kernel)
theorem gl_law_same_step_tuple {X : Cx} (c : CxIs X ["_law_found", "_law_step_here", "_law_k"] (defScope s_law_same_step)) : Gl X "tuple" := xg c (by decide +kernel)
theorem gl_law_same_step_len {X : Cx} (c : CxIs X ["_law_found", "_law_step_here", "_law_k"] (defScope s_law_same_step)) : Gl X "len" := xg c (by decide +kernel)
theorem gl_law_same_step_str {X : Cx} (c : CxIs X ["_law_found", "_law_step_here", "_law_k"] (defScope s_law_same_step)) : Gl X "str" := xg c (by decide +kernel)
theorem st_law_same_step (v0 v1 : V) : L2.start ["_law_found", "_law_step_here", "_law_k"] [v0, v1] = [some v0, some v1, none] := rfl
noncomputable def sp_law_same_step (K : PySem.W.Frag) : Sp := fun vs H Q _ => ∃ (p l : Addr) (st : StepD), vs = [.ref p, .ref l] ∧ SqT K H p st.vals ∧ SqT K H l st.vals ∧ ∀ H', Same H H' → Q (.bl true) H'
theorem body_law_same_step {X : Cx} (c : CxIs X ["_law_found", "_law_step_here", "_law_k"] (defScope s_law_same_step)) (hr : Room 1 X.A) {E : XK}  (z_range : X.mg "range" = none) (z_isinstance : X.mg "isinstance" = none) (z_tuple : X.mg "tuple" = none) (z_len : X.mg "len" = none) (z_str : X.mg "str" = none) (C_law_whole : Cal X.prog X.w X.K X.mg X.base "_law_whole" 1 ["_law_found"] (sp_law_whole X.K)) {vs : List V} {H : Hp} {Q : VK} (h : sp_law_same_step X.K vs H Q E) : ∃ t, WSs X (defBody s_law_same_step) t ∧ t { nx := fun _ H' => Q .non H', rt := Q } (L2.start ["_law_found", "_law_step_here", "_law_k"] vs) H := by
  obtain ⟨f_law_whole, d_law_whole, G_law_whole, b_law_whole, k_law_whole, m_law_whole⟩ := C_law_whole
  · obtain ⟨p, l, st, rfl, hP, hL, q⟩ := h
    refine ⟨_, (wss_cons (ws_if (WW.pt (ww_or (wt_not (wt_val (we_callB call_isinst (gl_law_same_step_isinstance c) z_isinstance boot_isinstance (wa_cons (pv_law_same_step_0 c) (wa_cons (we_bltn (v := .ty "tuple") (gl_law_same_step_tuple c) z_tuple boot_ty_tuple rfl) wa_nil star_Name) star_Name)))) (ww_or1 (wt_cmpR op_ne (we_callB call_len_seq (gl_law_same_step_len c) z_len PySem.boot_len (wa_cons (pv_law_same_step_0 c) wa_nil star_Name)) we_int (nomark _)))))
      (wss_one (ws_ret we_bl))
      wss_nil)
      (wss_cons (ws_for c.own c.calm (wi_range1 (gl_law_same_step_range c) z_range (wa_cons we_int wa_nil star_Constant)) (sg_law_same_step_2 c)
      (wss_cons (ws_if (WW.pt (ww_and (wt_cmpR op_in_seq (pv_law_same_step_2 c) (we_tupO (wa_cons we_int (wa_cons we_int wa_nil star_Constant) star_Constant)) rfl) (ww_and1 (wt_not (wt_val (we_callB call_isinst (gl_law_same_step_isinstance c) z_isinstance boot_isinstance (wa_cons (we_ix ix_tup (pv_law_same_step_0 c) (pv_law_same_step_2 c) plain_Name) (wa_cons (we_bltn (v := .ty "str") (gl_law_same_step_str c) z_str boot_ty_str rfl) wa_nil star_Name) star_Subscript)))))))
      (wss_one (ws_ret we_bl))
      wss_nil)
      (wss_cons (ws_if (WW.pt (ww_and (wt_cmpR op_notIn_seq (pv_law_same_step_2 c) (we_tupO (wa_cons we_int (wa_cons we_int wa_nil star_Constant) star_Constant)) rfl) (ww_and1 (wt_not (wt_val (we_call (G_law_whole.mono (by decide)) hr (gl_law_same_step_law_whole c) m_law_whole k_law_whole b_law_whole .nil pass0 (wa_cons (we_ix ix_tup (pv_law_same_step_0 c) (pv_law_same_step_2 c) plain_Name) wa_nil star_Subscript)))))))
      (wss_one (ws_ret we_bl))
      wss_nil)
      (wss_one (ws_if (wt_cmpR op_ne (we_ix ix_tup (pv_law_same_step_0 c) (pv_law_same_step_2 c) plain_Name) (we_ix ix_tup (pv_law_same_step_1 c) (pv_law_same_step_2 c) plain_Name) (nomark _))
      (wss_one (ws_ret we_bl))
      wss_nil)))))
      (wss_one (ws_ret we_bl)))), ?_⟩
    rw [st_law_same_step]
    refine ⟨_, rfl, _, _, _, _, rfl, TyS.tup hP, kit_tup_tup, _, rfl, ?_⟩
    refine iteF ?_
    refine ⟨_, rfl, _, _, rfl, .inr hP, rfl, _, rfl, ?_⟩
    refine ifnF (inj_int rfl) ?_
    refine ⟨_, rfl, (by decide), (by decide), for_range (fun i σ H' => ∃ v, σ = [some (.ref p), some (.ref l), v] ∧ Same H H') ⟨_, rfl, Same.refl _⟩ ?_ ?_⟩
    · rintro i σ H0 hi ⟨v, rfl, s0⟩ σ e
      dsimp only [List.set] at e
      subst e
      have hi' : i < 6 := hi
      rcases (by omega : i = 0 ∨ i = 1 ∨ i = 2 ∨ i = 3 ∨ i = 4 ∨ i = 5) with rfl | rfl | rfl | rfl | rfl | rfl
      · -- a text
        refine ⟨_, rfl, (small' (by decide)), fun p1 H1 _ s1 f1 => ?_⟩
        have t1 := s0.trans s1
        refine ⟨_, _, rfl, .inr (SqT.of f1), rfl, rfl, _, rfl, ?_⟩
        refine iteT ?_
        refine ⟨_, rfl, _, rfl, p, _, _, _, rfl, rfl, t1.seqT hP, rfl, _, _, _, _, rfl, TyS.str, kit_str_str, _, rfl, ?_⟩
        refine iteF ?_
        refine ⟨_, rfl, (small' (by decide)), fun p2 H2 _ s2 f2 => ?_⟩
        have t2 := t1.trans s2
        refine ⟨_, _, rfl, .inr (SqT.of f2), rfl, rfl, _, rfl, ?_⟩
        refine iteF ?_
        refine iteF ?_
        refine ⟨_, rfl, _, rfl, p, _, _, _, rfl, rfl, t2.seqT hP, rfl, _, rfl, _, rfl, l, _, _, _, rfl, rfl, t2.seqT hL, rfl, rfl, _, rfl, ?_⟩
        refine ifnF rfl ?_
        exact ⟨_, rfl, t2⟩
      · -- a number
        refine ⟨_, rfl, (small' (by decide)), fun p1 H1 _ s1 f1 => ?_⟩
        have t1 := s0.trans s1
        refine ⟨_, _, rfl, .inr (SqT.of f1), rfl, rfl, _, rfl, ?_⟩
        refine iteF ?_
        refine iteF ?_
        refine ⟨_, rfl, (small' (by decide)), fun p2 H2 _ s2 f2 => ?_⟩
        have t2 := t1.trans s2
        refine ⟨_, _, rfl, .inr (SqT.of f2), rfl, rfl, _, rfl, ?_⟩
        refine iteT ?_
        refine ⟨_, rfl, _, rfl, p, _, _, _, rfl, rfl, t2.seqT hP, rfl, _, rfl, _, rfl, ?_⟩
        refine iteF ?_
        refine ⟨_, rfl, _, rfl, p, _, _, _, rfl, rfl, t2.seqT hP, rfl, _, rfl, _, rfl, l, _, _, _, rfl, rfl, t2.seqT hL, rfl, rfl, _, rfl, ?_⟩
        refine ifnF rfl ?_
        exact ⟨_, rfl, t2⟩
      · -- a number
        refine ⟨_, rfl, (small' (by decide)), fun p1 H1 _ s1 f1 => ?_⟩
        have t1 := s0.trans s1
        refine ⟨_, _, rfl, .inr (SqT.of f1), rfl, rfl, _, rfl, ?_⟩
        refine iteF ?_
        refine iteF ?_
        refine ⟨_, rfl, (small' (by decide)), fun p2 H2 _ s2 f2 => ?_⟩
        have t2 := t1.trans s2
        refine ⟨_, _, rfl, .inr (SqT.of f2), rfl, rfl, _, rfl, ?_⟩
        refine iteT ?_
        refine ⟨_, rfl, _, rfl, p, _, _, _, rfl, rfl, t2.seqT hP, rfl, _, rfl, _, rfl, ?_⟩
        refine iteF ?_
        refine ⟨_, rfl, _, rfl, p, _, _, _, rfl, rfl, t2.seqT hP, rfl, _, rfl, _, rfl, l, _, _, _, rfl, rfl, t2.seqT hL, rfl, rfl, _, rfl, ?_⟩
        refine ifnF rfl ?_
        exact ⟨_, rfl, t2⟩
      · -- a number
        refine ⟨_, rfl, (small' (by decide)), fun p1 H1 _ s1 f1 => ?_⟩
        have t1 := s0.trans s1
        refine ⟨_, _, rfl, .inr (SqT.of f1), rfl, rfl, _, rfl, ?_⟩
        refine iteF ?_
        refine iteF ?_
        refine ⟨_, rfl, (small' (by decide)), fun p2 H2 _ s2 f2 => ?_⟩
        have t2 := t1.trans s2
        refine ⟨_, _, rfl, .inr (SqT.of f2), rfl, rfl, _, rfl, ?_⟩
        refine iteT ?_
        refine ⟨_, rfl, _, rfl, p, _, _, _, rfl, rfl, t2.seqT hP, rfl, _, rfl, _, rfl, ?_⟩
        refine iteF ?_
        refine ⟨_, rfl, _, rfl, p, _, _, _, rfl, rfl, t2.seqT hP, rfl, _, rfl, _, rfl, l, _, _, _, rfl, rfl, t2.seqT hL, rfl, rfl, _, rfl, ?_⟩
        refine ifnF rfl ?_
        exact ⟨_, rfl, t2⟩
      · -- a text
        refine ⟨_, rfl, (small' (by decide)), fun p1 H1 _ s1 f1 => ?_⟩
        have t1 := s0.trans s1
        refine ⟨_, _, rfl, .inr (SqT.of f1), rfl, rfl, _, rfl, ?_⟩
        refine iteT ?_
        refine ⟨_, rfl, _, rfl, p, _, _, _, rfl, rfl, t1.seqT hP, rfl, _, _, _, _, rfl, TyS.str, kit_str_str, _, rfl, ?_⟩
        refine iteF ?_
        refine ⟨_, rfl, (small' (by decide)), fun p2 H2 _ s2 f2 => ?_⟩
        have t2 := t1.trans s2
        refine ⟨_, _, rfl, .inr (SqT.of f2), rfl, rfl, _, rfl, ?_⟩
        refine iteF ?_
        refine iteF ?_
        refine ⟨_, rfl, _, rfl, p, _, _, _, rfl, rfl, t2.seqT hP, rfl, _, rfl, _, rfl, l, _, _, _, rfl, rfl, t2.seqT hL, rfl, rfl, _, rfl, ?_⟩
        refine ifnF rfl ?_
        exact ⟨_, rfl, t2⟩
      · -- a number
        refine ⟨_, rfl, (small' (by decide)), fun p1 H1 _ s1 f1 => ?_⟩
        have t1 := s0.trans s1
        refine ⟨_, _, rfl, .inr (SqT.of f1), rfl, rfl, _, rfl, ?_⟩
        refine iteF ?_
        refine iteF ?_
        refine ⟨_, rfl, (small' (by decide)), fun p2 H2 _ s2 f2 => ?_⟩
        have t2 := t1.trans s2
        refine ⟨_, _, rfl, .inr (SqT.of f2), rfl, rfl, _, rfl, ?_⟩
        refine iteT ?_
        refine ⟨_, rfl, _, rfl, p, _, _, _, rfl, rfl, t2.seqT hP, rfl, _, rfl, _, rfl, ?_⟩
        refine iteF ?_
        refine ⟨_, rfl, _, rfl, p, _, _, _, rfl, rfl, t2.seqT hP, rfl, _, rfl, _, rfl, l, _, _, _, rfl, rfl, t2.seqT hL, rfl, rfl, _, rfl, ?_⟩
        refine ifnF rfl ?_
        exact ⟨_, rfl, t2⟩
    · rintro σ H' ⟨v, rfl, s0⟩
      exact q _ s0
theorem cal_law_same_step {P : Program} {w : World} {K : PySem.W.Frag} {mg : Str → Option Value} {base : Heap} {f : Addr} {fd : FuncData} (F : Fun K "_law_same_step" "_law_same_step" s_law_same_step f fd) (b : Binds K fd ["_law_found", "_law_step_here"] []) (m : mg "_law_same_step" = some (.ref f)) (z_range : mg "range" = none) (z_isinstance : mg "isinstance" = none) (z_tuple : mg "tuple" = none) (z_len : mg "len" = none) (z_str : mg "str" = none) (C_law_whole : Cal P w K mg base "_law_whole" 1 ["_law_found"] (sp_law_whole K)) : Cal P w K mg base "_law_same_step" 2 ["_law_found", "_law_step_here"] (sp_law_same_step K) :=
  ⟨f, fd, F.ok sc_law_same_step (fun vs H Q E h => by first | (obtain ⟨_, rfl, _⟩ := h; rfl) | (obtain ⟨_, _, rfl, _⟩ := h; rfl) | (obtain ⟨_, _, _, rfl, _⟩ := h; rfl) | (obtain ⟨_, _, _, _, rfl, _⟩ := h; rfl) | (obtain ⟨_, _, _, _, _, rfl, _⟩ := h; rfl) | (obtain ⟨_, _, _, _, _, _, rfl, _⟩ := h; rfl) | (obtain ⟨_, _, _, _, _, _, _, rfl, _⟩ := h; rfl) | (obtain ⟨_, _, _, _, _, _, _, _, rfl, _⟩ := h; rfl) | (obtain ⟨_, _, _, _, _, _, _, _, _, rfl, _⟩ := h; rfl)) (fun cdv A outer s H vs Q E hr h => unW (body_law_same_step (X := (cxOf CX0 P w K mg base ["_law_found", "_law_step_here", "_law_k"] "_law_same_step" (defScope s_law_same_step) f cdv A outer s H E).nox) ⟨rfl, rfl, rfl, PassesOwn.never⟩ hr z_range z_isinstance z_tuple z_len z_str C_law_whole h)), b, F.kp, m⟩
theorem lk_law_product_0 : (defScope s_law_product).names.lookup ("_law_steps" : Str) = some .local := by decide +kernel
theorem pv_law_product_0 {X : Cx} (c : CxIs X ["_law_steps", "_law_wide", "_law_step_here"] (defScope s_law_product)) {pos : Pos} : WE X (.Name "_law_steps" pos) (tVar 0) := wxv c rfl lk_law_product_0 (by decide) (by decide)
theorem lk_law_product_1 : (defScope s_law_product).names.lookup ("_law_wide" : Str) = some .local := by decide +kernel
theorem pv_law_product_1 {X : Cx} (c : CxIs X ["_law_steps", "_law_wide", "_law_step_here"] (defScope s_law_product)) {pos : Pos} : WE X (.Name "_law_wide" pos) (tVar 1) := wxv c rfl lk_law_product_1 (by decide) (by decide)
theorem ss_law_product_1 {X : Cx} (c : CxIs X ["_law_steps", "_law_wide", "_law_step_here"] (defScope s_law_product)) {pos pos' : Pos} {e : Expr} {te : TE} (he : WE X e te) (hs : swapsWith e (some (.Name "_law_wide" pos')) pos.line X.env = pure false := by rfl) : WS X (.Assign [.Name "_law_wide" pos'] e pos) (tAsg te (gN 1)) := wxs c sc_law_product.nd rfl lk_law_product_1 he hs
theorem lk_law_product_2 : (defScope s_law_product).names.lookup ("_law_step_here" : Str) = some .local := by decide +kernel
theorem pv_law_product_2 {X : Cx} (c : CxIs X ["_law_steps", "_law_wide", "_law_step_here"] (defScope s_law_product)) {pos : Pos} : WE X (.Name "_law_step_here" pos) (tVar 2) := wxv c rfl lk_law_product_2 (by decide) (by decide)
theorem sg_law_product_2 {X : Cx} (c : CxIs X ["_law_steps", "_law_wide", "_law_step_here"] (defScope s_law_product)) {pos : Pos} : WG X (.Name "_law_step_here" pos) (gN 2) := wxt c sc_law_product.nd rfl lk_law_product_2
theorem gl_law_product_law_own {X : Cx} (c : CxIs X ["_law_steps", "_law_wide", "_law_step_here"] (defScope s_law_product)) : Gl X "_law_own" := xg c (by decide +kernel)
theorem st_law_product (v0 : V) : L2.start ["_law_steps", "_law_wide", "_law_step_here"] [v0] = [some v0, none, none] := rfl
noncomputable def sp_law_product (K : PySem.W.Frag) : Sp := fun vs H Q _ => ∃ (l : Addr) (as : List Addr) (sts : List StepD), vs = [.ref l] ∧ Chn K H l as sts ∧ Q (.int (prodI sts)) H
theorem body_law_product {X : Cx} (c : CxIs X ["_law_steps", "_law_wide", "_law_step_here"] (defScope s_law_product)) (hr : Room 2 X.A) {E : XK}  (C_law_own : Cal X.prog X.w X.K X.mg X.base "_law_own" 2 ["_law_step_here"] (sp_law_own X.K)) {vs : List V} {H : Hp} {Q : VK} (h : sp_law_product X.K vs H Q E) : ∃ t, WSs X (defBody s_law_product) t ∧ t { nx := fun _ H' => Q .non H', rt := Q } (L2.start ["_law_steps", "_law_wide", "_law_step_here"] vs) H := by
  obtain ⟨f_law_own, d_law_own, G_law_own, b_law_own, k_law_own, m_law_own⟩ := C_law_own
  · obtain ⟨l, as, sts, rfl, hC, q⟩ := h
    refine ⟨_, (wss_cons (ss_law_product_1 c we_int)
      (wss_cons (ws_for c.own c.calm (wi_list (pv_law_product_0 c)) (sg_law_product_2 c)
      (wss_one (ss_law_product_1 c (we_op op_mulB (pv_law_product_1 c) (we_call (G_law_own.mono (by decide)) hr (gl_law_product_law_own c) m_law_own k_law_own b_law_own .nil pass0 (wa_cons (pv_law_product_2 c) wa_nil star_Name))))))
      (wss_one (ws_ret (pv_law_product_1 c))))), ?_⟩
    rw [st_law_product]
    intro σ e
    dsimp only [List.set] at e
    subst e
    refine ⟨_, rfl, l, rfl, ⟨_, hC.lst⟩, for_list (K := X.K) (a := l) (xs := as.map V.ref) (fun i σ H' => H' = H ∧ ∃ v, σ = [some (.ref l), some (.int (prodI (sts.take i))), v])
      ⟨rfl, _, rfl⟩ (fun i σ H' _ ⟨e, _⟩ => by rw [e]; exact hC.lst) ?_ ?_⟩
    · rintro i x σ H' hi ⟨rfl, v, rfl⟩ σ e
      obtain ⟨a, st, rfl, h1, h2, hT, hO⟩ := hC.get hi
      dsimp only [List.set] at e
      subst e
      have c0 := hO.cyc0
      have c1 := hO.cyc1
      refine ⟨_, rfl, _, rfl, a, st, rfl, hT, hO, _, _, rfl, rfl, mul_r (by omega) (by omega), fun σ e => ?_⟩
      dsimp only [List.set] at e
      subst e
      exact ⟨rfl, _, by rw [take_snoc h2, prodI_snoc]⟩
    · rintro σ H' ⟨rfl, v, rfl⟩
      refine ⟨_, rfl, ?_⟩
      have e : sts.take (as.map V.ref).length = sts := by rw [List.length_map, hC.len, List.take_length]
      rw [e]
      exact q
theorem cal_law_product {P : Program} {w : World} {K : PySem.W.Frag} {mg : Str → Option Value} {base : Heap} {f : Addr} {fd : FuncData} (F : Fun K "_law_product" "_law_product" s_law_product f fd) (b : Binds K fd ["_law_steps"] []) (m : mg "_law_product" = some (.ref f)) (C_law_own : Cal P w K mg base "_law_own" 2 ["_law_step_here"] (sp_law_own K)) : Cal P w K mg base "_law_product" 3 ["_law_steps"] (sp_law_product K) :=
  ⟨f, fd, F.ok sc_law_product (fun vs H Q E h => by first | (obtain ⟨_, rfl, _⟩ := h; rfl) | (obtain ⟨_, _, rfl, _⟩ := h; rfl) | (obtain ⟨_, _, _, rfl, _⟩ := h; rfl) | (obtain ⟨_, _, _, _, rfl, _⟩ := h; rfl) | (obtain ⟨_, _, _, _, _, rfl, _⟩ := h; rfl) | (obtain ⟨_, _, _, _, _, _, rfl, _⟩ := h; rfl) | (obtain ⟨_, _, _, _, _, _, _, rfl, _⟩ := h; rfl) | (obtain ⟨_, _, _, _, _, _, _, _, rfl, _⟩ := h; rfl) | (obtain ⟨_, _, _, _, _, _, _, _, _, rfl, _⟩ := h; rfl)) (fun cdv A outer s H vs Q E hr h => unW (body_law_product (X := (cxOf CX0 P w K mg base ["_law_steps", "_law_wide", "_law_step_here"] "_law_product" (defScope s_law_product) f cdv A outer s H E).nox) ⟨rfl, rfl, rfl, PassesOwn.never⟩ hr C_law_own h)), b, F.kp, m⟩
theorem lk_law_same_chain_0 : (defScope s_law_same_chain).names.lookup ("_law_found" : Str) = some .local := by decide +kernel
theorem pv_law_same_chain_0 {X : Cx} (c : CxIs X ["_law_found", "_law_steps", "_law_k"] (defScope s_law_same_chain)) {pos : Pos} : WE X (.Name "_law_found" pos) (tVar 0) := wxv c rfl lk_law_same_chain_0 (by decide) (by decide)
theorem lk_law_same_chain_1 : (defScope s_law_same_chain).names.lookup ("_law_steps" : Str) = some .local := by decide +kernel
theorem pv_law_same_chain_1 {X : Cx} (c : CxIs X ["_law_found", "_law_steps", "_law_k"] (defScope s_law_same_chain)) {pos : Pos} : WE X (.Name "_law_steps" pos) (tVar 1) := wxv c rfl lk_law_same_chain_1 (by decide) (by decide)
theorem lk_law_same_chain_2 : (defScope s_law_same_chain).names.lookup ("_law_k" : Str) = some .local := by decide +kernel
theorem pv_law_same_chain_2 {X : Cx} (c : CxIs X ["_law_found", "_law_steps", "_law_k"] (defScope s_law_same_chain)) {pos : Pos} : WE X (.Name "_law_k" pos) (tVar 2) := wxv c rfl lk_law_same_chain_2 (by decide) (by decide)
theorem sg_law_same_chain_2 {X : Cx} (c : CxIs X ["_law_found", "_law_steps", "_law_k"] (defScope s_law_same_chain)) {pos : Pos} : WG X (.Name "_law_k" pos) (gN 2) := wxt c sc_law_same_chain.nd rfl lk_law_same_chain_2
theorem gl_law_same_chain_law_same_step {X : Cx} (c : CxIs X ["_law_found", "_law_steps", "_law_k"] (defScope s_law_same_chain)) : Gl X "_law_same_step" := xg c (by decide +kernel)
theorem gl_law_same_chain_range {X : Cx} (c : CxIs X ["_law_found", "_law_steps", "_law_k"] (defScope s_law_same_chain)) : Gl X "range" := xg c (by decide +kernel)
theorem gl_law_same_chain_len {X : Cx} (c : CxIs X ["_law_found", "_law_steps", "_law_k"] (defScope s_law_same_chain)) : Gl X "len" := xg c (by decide +kernel)
theorem gl_law_same_chain_isinstance {X : Cx} (c : CxIs X ["_law_found", "_law_steps", "_law_k"] (defScope s_law_same_chain)) : Gl X "isinstance" := xg c (by decide +kernel)
theorem gl_law_same_chain_list {X : Cx} (c : CxIs X ["_law_found", "_law_steps", "_law_k"] (defScope s_law_same_chain)) : Gl X "list" := xg c (by decide +kernel)
theorem st_law_same_chain (v0 v1 : V) : L2.start ["_law_found", "_law_steps", "_law_k"] [v0, v1] = [some v0, some v1, none] := rfl
noncomputable def sp_law_same_chain (K : PySem.W.Frag) : Sp := fun vs H Q _ => ∃ (p l : Addr) (as bs : List Addr) (sts : List StepD), vs = [.ref p, .ref l] ∧ Chn K H p as sts ∧ Chn K H l bs sts ∧ sts.length ≤ 2 ^ 60 ∧ ∀ H', Same H H' → Q (.bl true) H'
theorem body_law_same_chain {X : Cx} (c : CxIs X ["_law_found", "_law_steps", "_law_k"] (defScope s_law_same_chain)) (hr : Room 2 X.A) {E : XK}  (z_range : X.mg "range" = none) (z_len : X.mg "len" = none) (z_isinstance : X.mg "isinstance" = none) (z_list : X.mg "list" = none) (C_law_same_step : Cal X.prog X.w X.K X.mg X.base "_law_same_step" 2 ["_law_found", "_law_step_here"] (sp_law_same_step X.K)) {vs : List V} {H : Hp} {Q : VK} (h : sp_law_same_chain X.K vs H Q E) : ∃ t, WSs X (defBody s_law_same_chain) t ∧ t { nx := fun _ H' => Q .non H', rt := Q } (L2.start ["_law_found", "_law_steps", "_law_k"] vs) H := by
  obtain ⟨f_law_same_step, d_law_same_step, G_law_same_step, b_law_same_step, k_law_same_step, m_law_same_step⟩ := C_law_same_step
  · obtain ⟨p, l, as, bs, sts, rfl, hC, hD, h3, q⟩ := h
    refine ⟨_, (wss_cons (ws_if (WW.pt (ww_or (wt_not (wt_val (we_callB call_isinst (gl_law_same_chain_isinstance c) z_isinstance boot_isinstance (wa_cons (pv_law_same_chain_0 c) (wa_cons (we_bltn (v := .ty "list") (gl_law_same_chain_list c) z_list boot_ty_list rfl) wa_nil star_Name) star_Name)))) (ww_or1 (wt_cmpR op_ne (we_callB call_len_seq (gl_law_same_chain_len c) z_len PySem.boot_len (wa_cons (pv_law_same_chain_0 c) wa_nil star_Name)) (we_callB call_len_seq (gl_law_same_chain_len c) z_len PySem.boot_len (wa_cons (pv_law_same_chain_1 c) wa_nil star_Name)) (nomark _)))))
      (wss_one (ws_ret we_bl))
      wss_nil)
      (wss_cons (ws_for c.own c.calm (wi_range1 (gl_law_same_chain_range c) z_range (wa_cons (we_callB call_len_seq (gl_law_same_chain_len c) z_len PySem.boot_len (wa_cons (pv_law_same_chain_1 c) wa_nil star_Name)) wa_nil star_Call)) (sg_law_same_chain_2 c)
      (wss_one (ws_if (wt_not (wt_val (we_call (G_law_same_step.mono (by decide)) hr (gl_law_same_chain_law_same_step c) m_law_same_step k_law_same_step b_law_same_step .nil pass0 (wa_cons (we_ix ix_list (pv_law_same_chain_0 c) (pv_law_same_chain_2 c) plain_Name) (wa_cons (we_ix ix_list (pv_law_same_chain_1 c) (pv_law_same_chain_2 c) plain_Name) wa_nil star_Subscript) star_Subscript))))
      (wss_one (ws_ret we_bl))
      wss_nil)))
      (wss_one (ws_ret we_bl)))), ?_⟩
    rw [st_law_same_chain]
    have hl : (as.map V.ref).length = sts.length := by rw [List.length_map, hC.len]
    have hm : (bs.map V.ref).length = sts.length := by rw [List.length_map, hD.len]
    refine ⟨_, rfl, _, _, _, _, rfl, TyS.lst hC.lst, kit_lst_lst, _, rfl, ?_⟩
    refine iteF ?_
    refine ⟨_, rfl, _, _, rfl, .inl hC.lst, _, rfl, _, _, rfl, .inl hD.lst, rfl, _, rfl, ?_⟩
    refine ifnF (inj_int (by rw [hl, hm])) ?_
    refine ⟨_, rfl, _, _, rfl, .inl hD.lst, _, rfl, (by rw [hm]; omega), (by rw [hm]; omega), for_range (fun i σ H' => ∃ v, σ = [some (.ref p), some (.ref l), v] ∧ Same H H') ⟨_, rfl, Same.refl _⟩ ?_ ?_⟩
    · rintro i σ H0 hi ⟨v, rfl, s0⟩ σ e
      dsimp only [List.set] at e
      subst e
      rw [hm] at hi
      have hi' : i < sts.length := by omega
      obtain ⟨a, ha, hTa⟩ := hC.nth hi'
      obtain ⟨b, hb, hTb⟩ := hD.nth hi'
      refine ⟨_, rfl, _, rfl, p, _, _, _, rfl, rfl, s0.seq hC.lst, ha, _, rfl, _, rfl, l, _, _, _, rfl, rfl, s0.seq hD.lst, hb, a, b, sts[i], rfl, s0.seqT hTa, s0.seqT hTb, fun H1 s1 => ⟨_, rfl, ?_⟩⟩
      refine iteF ?_
      exact ⟨_, rfl, s0.trans s1⟩
    · rintro σ H' ⟨v, rfl, s0⟩
      exact q _ s0
theorem cal_law_same_chain {P : Program} {w : World} {K : PySem.W.Frag} {mg : Str → Option Value} {base : Heap} {f : Addr} {fd : FuncData} (F : Fun K "_law_same_chain" "_law_same_chain" s_law_same_chain f fd) (b : Binds K fd ["_law_found", "_law_steps"] []) (m : mg "_law_same_chain" = some (.ref f)) (z_range : mg "range" = none) (z_len : mg "len" = none) (z_isinstance : mg "isinstance" = none) (z_list : mg "list" = none) (C_law_same_step : Cal P w K mg base "_law_same_step" 2 ["_law_found", "_law_step_here"] (sp_law_same_step K)) : Cal P w K mg base "_law_same_chain" 3 ["_law_found", "_law_steps"] (sp_law_same_chain K) :=
  ⟨f, fd, F.ok sc_law_same_chain (fun vs H Q E h => by first | (obtain ⟨_, rfl, _⟩ := h; rfl) | (obtain ⟨_, _, rfl, _⟩ := h; rfl) | (obtain ⟨_, _, _, rfl, _⟩ := h; rfl) | (obtain ⟨_, _, _, _, rfl, _⟩ := h; rfl) | (obtain ⟨_, _, _, _, _, rfl, _⟩ := h; rfl) | (obtain ⟨_, _, _, _, _, _, rfl, _⟩ := h; rfl) | (obtain ⟨_, _, _, _, _, _, _, rfl, _⟩ := h; rfl) | (obtain ⟨_, _, _, _, _, _, _, _, rfl, _⟩ := h; rfl) | (obtain ⟨_, _, _, _, _, _, _, _, _, rfl, _⟩ := h; rfl)) (fun cdv A outer s H vs Q E hr h => unW (body_law_same_chain (X := (cxOf CX0 P w K mg base ["_law_found", "_law_steps", "_law_k"] "_law_same_chain" (defScope s_law_same_chain) f cdv A outer s H E).nox) ⟨rfl, rfl, rfl, PassesOwn.never⟩ hr z_range z_len z_isinstance z_list C_law_same_step h)), b, F.kp, m⟩
theorem lk_law_refused_0 : (defScope s_law_refused).names.lookup ("_law_steps" : Str) = some .local := by decide +kernel
theorem pv_law_refused_0 {X : Cx} (c : CxIs X ["_law_steps", "_law_place", "_law_door", "_law_handed", "_law_other", "e"] (defScope s_law_refused)) {pos : Pos} : WE X (.Name "_law_steps" pos) (tVar 0) := wxv c rfl lk_law_refused_0 (by decide) (by decide)
theorem lk_law_refused_1 : (defScope s_law_refused).names.lookup ("_law_place" : Str) = some .local := by decide +kernel
theorem pv_law_refused_1 {X : Cx} (c : CxIs X ["_law_steps", "_law_place", "_law_door", "_law_handed", "_law_other", "e"] (defScope s_law_refused)) {pos : Pos} : WE X (.Name "_law_place" pos) (tVar 1) := wxv c rfl lk_law_refused_1 (by decide) (by decide)
theorem lk_law_refused_2 : (defScope s_law_refused).names.lookup ("_law_door" : Str) = some .local := by decide +kernel
theorem pv_law_refused_2 {X : Cx} (c : CxIs X ["_law_steps", "_law_place", "_law_door", "_law_handed", "_law_other", "e"] (defScope s_law_refused)) {pos : Pos} : WE X (.Name "_law_door" pos) (tVar 2) := wxv c rfl lk_law_refused_2 (by decide) (by decide)
theorem lk_law_refused_3 : (defScope s_law_refused).names.lookup ("_law_handed" : Str) = some .local := by decide +kernel
theorem pv_law_refused_3 {X : Cx} (c : CxIs X ["_law_steps", "_law_place", "_law_door", "_law_handed", "_law_other", "e"] (defScope s_law_refused)) {pos : Pos} : WE X (.Name "_law_handed" pos) (tVar 3) := wxv c rfl lk_law_refused_3 (by decide) (by decide)
theorem ss_law_refused_3 {X : Cx} (c : CxIs X ["_law_steps", "_law_place", "_law_door", "_law_handed", "_law_other", "e"] (defScope s_law_refused)) {pos pos' : Pos} {e : Expr} {te : TE} (he : WE X e te) (hs : swapsWith e (some (.Name "_law_handed" pos')) pos.line X.env = pure false := by rfl) : WS X (.Assign [.Name "_law_handed" pos'] e pos) (tAsg te (gN 3)) := wxs c sc_law_refused.nd rfl lk_law_refused_3 he hs
theorem lk_law_refused_4 : (defScope s_law_refused).names.lookup ("_law_other" : Str) = some .local := by decide +kernel
theorem lk_law_refused_5 : (defScope s_law_refused).names.lookup ("e" : Str) = some .local := by decide +kernel
theorem gl_law_refused_exchanged {X : Cx} (c : CxIs X ["_law_steps", "_law_place", "_law_door", "_law_handed", "_law_other", "e"] (defScope s_law_refused)) : Gl X "exchanged" := xg c (by decide +kernel)
theorem gl_law_refused_may_exchange {X : Cx} (c : CxIs X ["_law_steps", "_law_place", "_law_door", "_law_handed", "_law_other", "e"] (defScope s_law_refused)) : Gl X "may_exchange" := xg c (by decide +kernel)
theorem gl_law_refused_list {X : Cx} (c : CxIs X ["_law_steps", "_law_place", "_law_door", "_law_handed", "_law_other", "e"] (defScope s_law_refused)) : Gl X "list" := xg c (by decide +kernel)
theorem gl_law_refused_Refused {X : Cx} (c : CxIs X ["_law_steps", "_law_place", "_law_door", "_law_handed", "_law_other", "e"] (defScope s_law_refused)) : Gl X "Refused" := xg c (by decide +kernel)
theorem st_law_refused (v0 v1 v2 : V) : L2.start ["_law_steps", "_law_place", "_law_door", "_law_handed", "_law_other", "e"] [v0, v1, v2] = [some v0, some v1, some v2, none, none, none] := rfl
noncomputable def sp_law_refused (K : PySem.W.Frag) : Sp := fun vs H Q _ => ∃ (l : Addr) (as : List Addr) (sts : List StepD) (k d : Int), vs = [.ref l, .int k, .int d] ∧ Chn K H l as sts ∧ sts.length ≤ 6 ∧ (k < 1 ∨ (sts.length : Int) ≤ k) ∧ ∀ H', Same H H' → Q (.bl true) H'
theorem body_law_refused {X : Cx} (c : CxIs X ["_law_steps", "_law_place", "_law_door", "_law_handed", "_law_other", "e"] (defScope s_law_refused)) (hr : Room 2 X.A) {E : XK} (dx : DefCx X)  (T_Refused : Txt_Refused X.K X.mg) (T_BadStep : Txt_BadStep X.K X.mg) (T_TooLong : Txt_TooLong X.K X.mg) (T_BadPrice : Txt_BadPrice X.K X.mg) (T_TooMany : Txt_TooMany X.K X.mg) (T_NoEdition : Txt_NoEdition X.K X.mg) (T_NoSale : Txt_NoSale X.K X.mg) (T_NoPlace : Txt_NoPlace X.K X.mg) (z_list : X.mg "list" = none) (z_isinstance : X.mg "isinstance" = none) (z_ValueError : X.mg "ValueError" = none) (C_exchanged : CalX X.prog X.w X.K X.mg X.base "exchanged" 1 ["chain", "k"] (sp_exchanged X.K)) (C_may_exchange : CalX X.prog X.w X.K X.mg X.base "may_exchange" 2 ["chain", "k"] (sp_may_exchange X.K)) {vs : List V} {H : Hp} {Q : VK} (h : sp_law_refused X.K vs H Q E) : ∃ t, WSs X (defBody s_law_refused) t ∧ t { nx := fun _ H' => Q .non H', rt := Q } (L2.start ["_law_steps", "_law_place", "_law_door", "_law_handed", "_law_other", "e"] vs) H := by
  obtain ⟨f_exchanged, d_exchanged, G_exchanged, b_exchanged, k_exchanged, m_exchanged⟩ := C_exchanged
  obtain ⟨f_may_exchange, d_may_exchange, G_may_exchange, b_may_exchange, k_may_exchange, m_may_exchange⟩ := C_may_exchange
  · obtain ⟨l, as, sts, k, d, rfl, hC, h6, hk, q⟩ := h
    refine ⟨_, (wss_cons (ss_law_refused_3 c (we_callTy call_list_ofO (gl_law_refused_list c) z_list boot_ty_list (wa_cons (pv_law_refused_0 c) wa_nil star_Name)))
      (wss_cons (ws_try c dx (fun _ _ _ c' pt => (wss_one (ws_if (wt_cmpR op_eq (pv_law_refused_2 c') we_int (nomark _))
      (wss_one (ws_expr (we_callS (G_exchanged.mono (by decide)) hr (gl_law_refused_exchanged c') m_exchanged k_exchanged b_exchanged .nil pt (wa_cons (pv_law_refused_3 c') (wa_cons (pv_law_refused_1 c') wa_nil star_Name) star_Name))))
      (wss_one (ws_expr (we_callS (G_may_exchange.mono (by decide)) hr (gl_law_refused_may_exchange c') m_may_exchange k_may_exchange b_may_exchange .nil pt (wa_cons (pv_law_refused_3 c') (wa_cons (pv_law_refused_1 c') wa_nil star_Name) star_Name))))))) (wh_as (C := clsAt _ "Refused") (i := 5) (gl_law_refused_Refused c) T_Refused.g (by rw [c.n]; exact sc_law_refused.nd) (by rw [c.n]; rfl) (by rw [c.s]; exact lk_law_refused_5) (fun ea oe cls od h1 h2 hn => have ce := c.toN ea oe; (wss_cons (nxs ce sc_law_refused.nd (i := 4) rfl lk_law_refused_4 (we_or (we_callB (call_isinstE h1 h2 hn) (nxg ce (by decide +kernel)) z_isinstance boot_isinstance (wa_cons (nxv ce (i := 5) rfl lk_law_refused_5 (by decide) (by decide)) (wa_cons (we_glob (v := .ref (clsAt _ "BadStep")) (nxg ce (by decide +kernel)) T_BadStep.g rfl) wa_nil star_Name) star_Name)) (we_or (we_callB (call_isinstE h1 h2 hn) (nxg ce (by decide +kernel)) z_isinstance boot_isinstance (wa_cons (nxv ce (i := 5) rfl lk_law_refused_5 (by decide) (by decide)) (wa_cons (we_glob (v := .ref (clsAt _ "TooLong")) (nxg ce (by decide +kernel)) T_TooLong.g rfl) wa_nil star_Name) star_Name)) (we_one (we_callB (call_isinstE h1 h2 hn) (nxg ce (by decide +kernel)) z_isinstance boot_isinstance (wa_cons (nxv ce (i := 5) rfl lk_law_refused_5 (by decide) (by decide)) (wa_cons (we_glob (v := .ref (clsAt _ "BadPrice")) (nxg ce (by decide +kernel)) T_BadPrice.g rfl) wa_nil star_Name) star_Name))))))
      (wss_cons (nxs ce sc_law_refused.nd (i := 4) rfl lk_law_refused_4 (we_or (nxv ce (i := 4) rfl lk_law_refused_4 (by decide) (by decide)) (we_or (we_callB (call_isinstE h1 h2 hn) (nxg ce (by decide +kernel)) z_isinstance boot_isinstance (wa_cons (nxv ce (i := 5) rfl lk_law_refused_5 (by decide) (by decide)) (wa_cons (we_glob (v := .ref (clsAt _ "TooMany")) (nxg ce (by decide +kernel)) T_TooMany.g rfl) wa_nil star_Name) star_Name)) (we_or (we_callB (call_isinstE h1 h2 hn) (nxg ce (by decide +kernel)) z_isinstance boot_isinstance (wa_cons (nxv ce (i := 5) rfl lk_law_refused_5 (by decide) (by decide)) (wa_cons (we_glob (v := .ref (clsAt _ "NoEdition")) (nxg ce (by decide +kernel)) T_NoEdition.g rfl) wa_nil star_Name) star_Name)) (we_one (we_callB (call_isinstE h1 h2 hn) (nxg ce (by decide +kernel)) z_isinstance boot_isinstance (wa_cons (nxv ce (i := 5) rfl lk_law_refused_5 (by decide) (by decide)) (wa_cons (we_glob (v := .ref (clsAt _ "NoSale")) (nxg ce (by decide +kernel)) T_NoSale.g rfl) wa_nil star_Name) star_Name)))))))
      (wss_one (ws_ret (we_and (we_callB (call_isinstE h1 h2 hn) (nxg ce (by decide +kernel)) z_isinstance boot_isinstance (wa_cons (nxv ce (i := 5) rfl lk_law_refused_5 (by decide) (by decide)) (wa_cons (we_glob (v := .ref (clsAt _ "NoPlace")) (nxg ce (by decide +kernel)) T_NoPlace.g rfl) wa_nil star_Name) star_Name)) (we_and (we_callB (call_isinstE h1 h2 hn) (nxg ce (by decide +kernel)) z_isinstance boot_isinstance (wa_cons (nxv ce (i := 5) rfl lk_law_refused_5 (by decide) (by decide)) (wa_cons (we_bltn (v := .ty "ValueError") (nxg ce (by decide +kernel)) z_ValueError boot_ty_ValueError rfl) wa_nil star_Name) star_Name)) (we_one (we_not (nxv ce (i := 4) rfl lk_law_refused_4 (by decide) (by decide))))))))))) wh_nil))
      (wss_one (ws_ret we_bl)))), ?_⟩
    rw [st_law_refused]
    refine ⟨_, rfl, _, _, rfl, .inl hC.lst, fun p H1 n1 s1 f1 σ e => ?_⟩
    dsimp only [List.set] at e
    subst e
    have hD := hC.copy s1 f1
    dsimp only [tTry]
    refine ⟨_, rfl, rfl, _, rfl, ?_⟩
    refine if2 (fun hd => ?_) (fun hd => ?_)
    ·
      refine ⟨_, rfl, _, rfl, p, as, sts, k, rfl, hD, h6, fun ⟨a, b⟩ => by omega, fun _ ea hea => ?_⟩
      refine ⟨true, T_NoPlace.m_Refused, ?_⟩
      refine iteT ?_
      refine ⟨_, rfl, _, _, _, _, rfl, rfl, T_NoPlace.kit, trivial, rfl, T_NoPlace.i_BadStep, _, rfl, ?_⟩
      refine iteF ?_
      refine ⟨_, rfl, _, _, _, _, rfl, rfl, T_NoPlace.kit, trivial, rfl, T_NoPlace.i_TooLong, _, rfl, ?_⟩
      refine iteF ?_
      refine ⟨_, rfl, _, _, _, _, rfl, rfl, T_NoPlace.kit, trivial, rfl, T_NoPlace.i_BadPrice, fun σ e => ?_⟩
      dsimp only [List.set] at e
      subst e
      refine ⟨_, rfl, _, rfl, ?_⟩
      refine iteF ?_
      refine ⟨_, rfl, _, _, _, _, rfl, rfl, T_NoPlace.kit, trivial, rfl, T_NoPlace.i_TooMany, _, rfl, ?_⟩
      refine iteF ?_
      refine ⟨_, rfl, _, _, _, _, rfl, rfl, T_NoPlace.kit, trivial, rfl, T_NoPlace.i_NoEdition, _, rfl, ?_⟩
      refine iteF ?_
      refine ⟨_, rfl, _, _, _, _, rfl, rfl, T_NoPlace.kit, trivial, rfl, T_NoPlace.i_NoSale, fun σ e => ?_⟩
      dsimp only [List.set] at e
      subst e
      refine ⟨_, rfl, _, _, _, _, rfl, rfl, T_NoPlace.kit, trivial, rfl, T_NoPlace.i_NoPlace, _, rfl, ?_⟩
      refine iteT ?_
      refine ⟨_, rfl, _, _, _, _, rfl, rfl, T_NoPlace.kit, trivial, rfl, T_NoPlace.iv, _, rfl, ?_⟩
      refine iteT ?_
      exact ⟨_, rfl, _, rfl, q _ s1⟩
    ·
      refine ⟨_, rfl, _, rfl, p, as, sts, k, rfl, hD, h6, hk, fun ea hea => ?_⟩
      refine ⟨true, T_NoPlace.m_Refused, ?_⟩
      refine iteT ?_
      refine ⟨_, rfl, _, _, _, _, rfl, rfl, T_NoPlace.kit, trivial, rfl, T_NoPlace.i_BadStep, _, rfl, ?_⟩
      refine iteF ?_
      refine ⟨_, rfl, _, _, _, _, rfl, rfl, T_NoPlace.kit, trivial, rfl, T_NoPlace.i_TooLong, _, rfl, ?_⟩
      refine iteF ?_
      refine ⟨_, rfl, _, _, _, _, rfl, rfl, T_NoPlace.kit, trivial, rfl, T_NoPlace.i_BadPrice, fun σ e => ?_⟩
      dsimp only [List.set] at e
      subst e
      refine ⟨_, rfl, _, rfl, ?_⟩
      refine iteF ?_
      refine ⟨_, rfl, _, _, _, _, rfl, rfl, T_NoPlace.kit, trivial, rfl, T_NoPlace.i_TooMany, _, rfl, ?_⟩
      refine iteF ?_
      refine ⟨_, rfl, _, _, _, _, rfl, rfl, T_NoPlace.kit, trivial, rfl, T_NoPlace.i_NoEdition, _, rfl, ?_⟩
      refine iteF ?_
      refine ⟨_, rfl, _, _, _, _, rfl, rfl, T_NoPlace.kit, trivial, rfl, T_NoPlace.i_NoSale, fun σ e => ?_⟩
      dsimp only [List.set] at e
      subst e
      refine ⟨_, rfl, _, _, _, _, rfl, rfl, T_NoPlace.kit, trivial, rfl, T_NoPlace.i_NoPlace, _, rfl, ?_⟩
      refine iteT ?_
      refine ⟨_, rfl, _, _, _, _, rfl, rfl, T_NoPlace.kit, trivial, rfl, T_NoPlace.iv, _, rfl, ?_⟩
      refine iteT ?_
      exact ⟨_, rfl, _, rfl, q _ s1⟩
theorem cal_law_refused {P : Program} {w : World} {K : PySem.W.Frag} {mg : Str → Option Value} {base : Heap} {f : Addr} {fd : FuncData} (F : Fun K "_law_refused" "_law_refused" s_law_refused f fd) (b : Binds K fd ["_law_steps", "_law_place", "_law_door"] []) (m : mg "_law_refused" = some (.ref f)) (T_Refused : Txt_Refused K mg) (T_BadStep : Txt_BadStep K mg) (T_TooLong : Txt_TooLong K mg) (T_BadPrice : Txt_BadPrice K mg) (T_TooMany : Txt_TooMany K mg) (T_NoEdition : Txt_NoEdition K mg) (T_NoSale : Txt_NoSale K mg) (T_NoPlace : Txt_NoPlace K mg) (z_list : mg "list" = none) (z_isinstance : mg "isinstance" = none) (z_ValueError : mg "ValueError" = none) (C_exchanged : CalX P w K mg base "exchanged" 1 ["chain", "k"] (sp_exchanged K)) (C_may_exchange : CalX P w K mg base "may_exchange" 2 ["chain", "k"] (sp_may_exchange K)) : Cal P w K mg base "_law_refused" 3 ["_law_steps", "_law_place", "_law_door"] (sp_law_refused K) :=
  ⟨f, fd, F.ok sc_law_refused (fun vs H Q E h => by first | (obtain ⟨_, rfl, _⟩ := h; rfl) | (obtain ⟨_, _, rfl, _⟩ := h; rfl) | (obtain ⟨_, _, _, rfl, _⟩ := h; rfl) | (obtain ⟨_, _, _, _, rfl, _⟩ := h; rfl) | (obtain ⟨_, _, _, _, _, rfl, _⟩ := h; rfl) | (obtain ⟨_, _, _, _, _, _, rfl, _⟩ := h; rfl) | (obtain ⟨_, _, _, _, _, _, _, rfl, _⟩ := h; rfl) | (obtain ⟨_, _, _, _, _, _, _, _, rfl, _⟩ := h; rfl) | (obtain ⟨_, _, _, _, _, _, _, _, _, rfl, _⟩ := h; rfl)) (fun cdv A outer s H vs Q E hr h => unW (body_law_refused (X := (cxOf CX0 P w K mg base ["_law_steps", "_law_place", "_law_door", "_law_handed", "_law_other", "e"] "_law_refused" (defScope s_law_refused) f cdv A outer s H E).nox) ⟨rfl, rfl, rfl, PassesOwn.never⟩ hr ⟨rfl, rfl, rfl⟩ T_Refused T_BadStep T_TooLong T_BadPrice T_TooMany T_NoEdition T_NoSale T_NoPlace z_list z_isinstance z_ValueError C_exchanged C_may_exchange h)), b, F.kp, m⟩
theorem lk_law_chain_0 : (defScope s_law_chain).names.lookup ("_law_script" : Str) = some .local := by decide +kernel
theorem pv_law_chain_0 {X : Cx} (c : CxIs X ["_law_script", "_law_base", "_law_many", "_law_limit", "_law_size", "_law_steps", "_law_k", "_law_cell", "_law_step_here"] (defScope s_law_chain)) {pos : Pos} : WE X (.Name "_law_script" pos) (tVar 0) := wxv c rfl lk_law_chain_0 (by decide) (by decide)
theorem lk_law_chain_1 : (defScope s_law_chain).names.lookup ("_law_base" : Str) = some .local := by decide +kernel
theorem pv_law_chain_1 {X : Cx} (c : CxIs X ["_law_script", "_law_base", "_law_many", "_law_limit", "_law_size", "_law_steps", "_law_k", "_law_cell", "_law_step_here"] (defScope s_law_chain)) {pos : Pos} : WE X (.Name "_law_base" pos) (tVar 1) := wxv c rfl lk_law_chain_1 (by decide) (by decide)
theorem lk_law_chain_2 : (defScope s_law_chain).names.lookup ("_law_many" : Str) = some .local := by decide +kernel
theorem pv_law_chain_2 {X : Cx} (c : CxIs X ["_law_script", "_law_base", "_law_many", "_law_limit", "_law_size", "_law_steps", "_law_k", "_law_cell", "_law_step_here"] (defScope s_law_chain)) {pos : Pos} : WE X (.Name "_law_many" pos) (tVar 2) := wxv c rfl lk_law_chain_2 (by decide) (by decide)
theorem lk_law_chain_3 : (defScope s_law_chain).names.lookup ("_law_limit" : Str) = some .local := by decide +kernel
theorem pv_law_chain_3 {X : Cx} (c : CxIs X ["_law_script", "_law_base", "_law_many", "_law_limit", "_law_size", "_law_steps", "_law_k", "_law_cell", "_law_step_here"] (defScope s_law_chain)) {pos : Pos} : WE X (.Name "_law_limit" pos) (tVar 3) := wxv c rfl lk_law_chain_3 (by decide) (by decide)
theorem lk_law_chain_4 : (defScope s_law_chain).names.lookup ("_law_size" : Str) = some .local := by decide +kernel
theorem pv_law_chain_4 {X : Cx} (c : CxIs X ["_law_script", "_law_base", "_law_many", "_law_limit", "_law_size", "_law_steps", "_law_k", "_law_cell", "_law_step_here"] (defScope s_law_chain)) {pos : Pos} : WE X (.Name "_law_size" pos) (tVar 4) := wxv c rfl lk_law_chain_4 (by decide) (by decide)
theorem ss_law_chain_4 {X : Cx} (c : CxIs X ["_law_script", "_law_base", "_law_many", "_law_limit", "_law_size", "_law_steps", "_law_k", "_law_cell", "_law_step_here"] (defScope s_law_chain)) {pos pos' : Pos} {e : Expr} {te : TE} (he : WE X e te) (hs : swapsWith e (some (.Name "_law_size" pos')) pos.line X.env = pure false := by rfl) : WS X (.Assign [.Name "_law_size" pos'] e pos) (tAsg te (gN 4)) := wxs c sc_law_chain.nd rfl lk_law_chain_4 he hs
theorem lk_law_chain_5 : (defScope s_law_chain).names.lookup ("_law_steps" : Str) = some .local := by decide +kernel
theorem pv_law_chain_5 {X : Cx} (c : CxIs X ["_law_script", "_law_base", "_law_many", "_law_limit", "_law_size", "_law_steps", "_law_k", "_law_cell", "_law_step_here"] (defScope s_law_chain)) {pos : Pos} : WE X (.Name "_law_steps" pos) (tVar 5) := wxv c rfl lk_law_chain_5 (by decide) (by decide)
theorem ss_law_chain_5 {X : Cx} (c : CxIs X ["_law_script", "_law_base", "_law_many", "_law_limit", "_law_size", "_law_steps", "_law_k", "_law_cell", "_law_step_here"] (defScope s_law_chain)) {pos pos' : Pos} {e : Expr} {te : TE} (he : WE X e te) (hs : swapsWith e (some (.Name "_law_steps" pos')) pos.line X.env = pure false := by rfl) : WS X (.Assign [.Name "_law_steps" pos'] e pos) (tAsg te (gN 5)) := wxs c sc_law_chain.nd rfl lk_law_chain_5 he hs
theorem lk_law_chain_6 : (defScope s_law_chain).names.lookup ("_law_k" : Str) = some .local := by decide +kernel
theorem pv_law_chain_6 {X : Cx} (c : CxIs X ["_law_script", "_law_base", "_law_many", "_law_limit", "_law_size", "_law_steps", "_law_k", "_law_cell", "_law_step_here"] (defScope s_law_chain)) {pos : Pos} : WE X (.Name "_law_k" pos) (tVar 6) := wxv c rfl lk_law_chain_6 (by decide) (by decide)
theorem sg_law_chain_6 {X : Cx} (c : CxIs X ["_law_script", "_law_base", "_law_many", "_law_limit", "_law_size", "_law_steps", "_law_k", "_law_cell", "_law_step_here"] (defScope s_law_chain)) {pos : Pos} : WG X (.Name "_law_k" pos) (gN 6) := wxt c sc_law_chain.nd rfl lk_law_chain_6
theorem lk_law_chain_7 : (defScope s_law_chain).names.lookup ("_law_cell" : Str) = some .local := by decide +kernel
theorem pv_law_chain_7 {X : Cx} (c : CxIs X ["_law_script", "_law_base", "_law_many", "_law_limit", "_law_size", "_law_steps", "_law_k", "_law_cell", "_law_step_here"] (defScope s_law_chain)) {pos : Pos} : WE X (.Name "_law_cell" pos) (tVar 7) := wxv c rfl lk_law_chain_7 (by decide) (by decide)
theorem ss_law_chain_7 {X : Cx} (c : CxIs X ["_law_script", "_law_base", "_law_many", "_law_limit", "_law_size", "_law_steps", "_law_k", "_law_cell", "_law_step_here"] (defScope s_law_chain)) {pos pos' : Pos} {e : Expr} {te : TE} (he : WE X e te) (hs : swapsWith e (some (.Name "_law_cell" pos')) pos.line X.env = pure false := by rfl) : WS X (.Assign [.Name "_law_cell" pos'] e pos) (tAsg te (gN 7)) := wxs c sc_law_chain.nd rfl lk_law_chain_7 he hs
theorem lk_law_chain_8 : (defScope s_law_chain).names.lookup ("_law_step_here" : Str) = some .local := by decide +kernel
theorem pv_law_chain_8 {X : Cx} (c : CxIs X ["_law_script", "_law_base", "_law_many", "_law_limit", "_law_size", "_law_steps", "_law_k", "_law_cell", "_law_step_here"] (defScope s_law_chain)) {pos : Pos} : WE X (.Name "_law_step_here" pos) (tVar 8) := wxv c rfl lk_law_chain_8 (by decide) (by decide)
theorem ss_law_chain_8 {X : Cx} (c : CxIs X ["_law_script", "_law_base", "_law_many", "_law_limit", "_law_size", "_law_steps", "_law_k", "_law_cell", "_law_step_here"] (defScope s_law_chain)) {pos pos' : Pos} {e : Expr} {te : TE} (he : WE X e te) (hs : swapsWith e (some (.Name "_law_step_here" pos')) pos.line X.env = pure false := by rfl) : WS X (.Assign [.Name "_law_step_here" pos'] e pos) (tAsg te (gN 8)) := wxs c sc_law_chain.nd rfl lk_law_chain_8 he hs
theorem gl_law_chain_law_draw {X : Cx} (c : CxIs X ["_law_script", "_law_base", "_law_many", "_law_limit", "_law_size", "_law_steps", "_law_k", "_law_cell", "_law_step_here"] (defScope s_law_chain)) : Gl X "_law_draw" := xg c (by decide +kernel)
theorem gl_law_chain_law_step {X : Cx} (c : CxIs X ["_law_script", "_law_base", "_law_many", "_law_limit", "_law_size", "_law_steps", "_law_k", "_law_cell", "_law_step_here"] (defScope s_law_chain)) : Gl X "_law_step" := xg c (by decide +kernel)
theorem gl_law_chain_law_at {X : Cx} (c : CxIs X ["_law_script", "_law_base", "_law_many", "_law_limit", "_law_size", "_law_steps", "_law_k", "_law_cell", "_law_step_here"] (defScope s_law_chain)) : Gl X "_law_at" := xg c (by decide +kernel)
theorem gl_law_chain_law_product {X : Cx} (c : CxIs X ["_law_script", "_law_base", "_law_many", "_law_limit", "_law_size", "_law_steps", "_law_k", "_law_cell", "_law_step_here"] (defScope s_law_chain)) : Gl X "_law_product" := xg c (by decide +kernel)
theorem gl_law_chain_range {X : Cx} (c : CxIs X ["_law_script", "_law_base", "_law_many", "_law_limit", "_law_size", "_law_steps", "_law_k", "_law_cell", "_law_step_here"] (defScope s_law_chain)) : Gl X "range" := xg c (by decide +kernel)
theorem gl_law_chain_min {X : Cx} (c : CxIs X ["_law_script", "_law_base", "_law_many", "_law_limit", "_law_size", "_law_steps", "_law_k", "_law_cell", "_law_step_here"] (defScope s_law_chain)) : Gl X "min" := xg c (by decide +kernel)
theorem st_law_chain (v0 v1 v2 v3 : V) : L2.start ["_law_script", "_law_base", "_law_many", "_law_limit", "_law_size", "_law_steps", "_law_k", "_law_cell", "_law_step_here"] [v0, v1, v2, v3] = [some v0, some v1, some v2, some v3, none, none, none, none, none] := rfl
noncomputable def sp_law_chain (K : PySem.W.Frag) : Sp := fun vs H Q _ => ∃ (a : Addr) (ns : List Int) (bs many lim : Int), vs = [.ref a, .int bs, .int many, .int lim] ∧ SqL K H a (ns.map V.int) ∧ 0 ≤ bs ∧ bs ≤ 500 ∧ 0 ≤ many ∧ many ≤ 60 ∧ 1 ≤ lim ∧
  ∀ (l : Addr) (as : List Addr) (sts : List StepD) (H' : Hp), Same H H' → H l = none → H' l = some (.lst (as.map V.ref)) → Chn K H' l as sts → (sts.length : Int) ≤ many → prodI sts ≤ lim → Q (.ref l) H'
theorem body_law_chain {X : Cx} (c : CxIs X ["_law_script", "_law_base", "_law_many", "_law_limit", "_law_size", "_law_steps", "_law_k", "_law_cell", "_law_step_here"] (defScope s_law_chain)) (hr : Room 3 X.A) {E : XK}  (z_range : X.mg "range" = none) (z_min : X.mg "min" = none) (C_law_draw : Cal X.prog X.w X.K X.mg X.base "_law_draw" 2 ["_law_script", "_law_k"] (sp_law_draw X.K)) (C_law_step : Cal X.prog X.w X.K X.mg X.base "_law_step" 1 ["_law_cell", "_law_size"] (sp_law_step X.K)) (C_law_at : Cal X.prog X.w X.K X.mg X.base "_law_at" 1 ["_law_script", "_law_k"] (sp_law_at X.K)) (C_law_product : Cal X.prog X.w X.K X.mg X.base "_law_product" 3 ["_law_steps"] (sp_law_product X.K)) {vs : List V} {H : Hp} {Q : VK} (h : sp_law_chain X.K vs H Q E) : ∃ t, WSs X (defBody s_law_chain) t ∧ t { nx := fun _ H' => Q .non H', rt := Q } (L2.start ["_law_script", "_law_base", "_law_many", "_law_limit", "_law_size", "_law_steps", "_law_k", "_law_cell", "_law_step_here"] vs) H := by
  obtain ⟨f_law_draw, d_law_draw, G_law_draw, b_law_draw, k_law_draw, m_law_draw⟩ := C_law_draw
  obtain ⟨f_law_step, d_law_step, G_law_step, b_law_step, k_law_step, m_law_step⟩ := C_law_step
  obtain ⟨f_law_at, d_law_at, G_law_at, b_law_at, k_law_at, m_law_at⟩ := C_law_at
  obtain ⟨f_law_product, d_law_product, G_law_product, b_law_product, k_law_product, m_law_product⟩ := C_law_product
  · obtain ⟨a, ns, bs, many, lim, rfl, hS, b0, b1, m0, m1, l0, q⟩ := h
    refine ⟨_, (wss_cons (ss_law_chain_4 c (we_op op_mod (we_op op_fdivB (we_call (G_law_at.mono (by decide)) hr (gl_law_chain_law_at c) m_law_at k_law_at b_law_at .nil pass0 (wa_cons (pv_law_chain_0 c) (wa_cons we_int wa_nil star_Constant) star_Name)) we_int) we_int))
      (wss_cons (ss_law_chain_5 c (we_lstO wa_nil))
      (wss_cons (ws_for c.own c.calm (wi_range1 (gl_law_chain_range c) z_range (wa_cons (pv_law_chain_2 c) wa_nil star_Name)) (sg_law_chain_6 c)
      (wss_cons (ss_law_chain_7 c (we_call (G_law_draw.mono (by decide)) hr (gl_law_chain_law_draw c) m_law_draw k_law_draw b_law_draw .nil pass0 (wa_cons (pv_law_chain_0 c) (wa_cons (we_op op_add (pv_law_chain_1 c) (pv_law_chain_6 c)) wa_nil star_BinOp) star_Name)))
      (wss_cons (ss_law_chain_8 c (we_call (G_law_step.mono (by decide)) hr (gl_law_chain_law_step c) m_law_step k_law_step b_law_step .nil pass0 (wa_cons (we_op op_fdivB (pv_law_chain_7 c) we_int) (wa_cons (we_callB (call_min2 c.calm) (gl_law_chain_min c) z_min boot_min (wa_cons (pv_law_chain_4 c) (wa_cons (we_op op_mod (pv_law_chain_7 c) we_int) wa_nil star_BinOp) star_Name)) wa_nil star_Call) star_BinOp)))
      (wss_one (ws_if (wt_cmpR op_le (we_call (G_law_product.mono (by decide)) hr (gl_law_chain_law_product c) m_law_product k_law_product b_law_product .nil pass0 (wa_cons (we_op op_cat (pv_law_chain_5 c) (we_lstO (wa_cons (pv_law_chain_8 c) wa_nil star_Name))) wa_nil star_BinOp)) (pv_law_chain_3 c) (nomark _))
      (wss_one (ws_expr (we_bm PySem.F.plainAttrs_list PySem.F.slot_list_append PySem.F.type_list_append mt_append (pv_law_chain_5 c) (wa_cons (pv_law_chain_8 c) wa_nil star_Name))))
      wss_nil)))))
      (wss_one (ws_ret (pv_law_chain_5 c)))))), ?_⟩
    rw [st_law_chain]
    refine ⟨_, rfl, a, ns, _, rfl, hS, by decide, _, _, rfl, rfl, ⟨by decide, by decide +kernel⟩, _, _, rfl, rfl, (by decide : (0 : Int) < 4), fun σ e => ?_⟩
    dsimp only [List.set] at e
    have z0 := md0 (x := cell ns 0 / 2) (n := 4) (by decide)
    have z1 := md1 (x := cell ns 0 / 2) (n := 4) (by decide)
    generalize cell ns 0 / 2 % 4 = size at e z0 z1
    subst e
    refine ⟨(small' (by decide)), fun p1 H1 n1 s1 f1 σ e => ?_⟩
    dsimp only [List.set] at e
    subst e
    refine ⟨_, rfl, _, rfl, (by omega), (by omega), for_range (fun i σ H' => ∃ (as : List Addr) (sts : List StepD) (v1 v2 v3 : Option V), σ = [some (.ref a), some (.int bs), some (.int many), some (.int lim), some (.int size), some (.ref p1), v1, v2, v3] ∧
        Same H H' ∧ H' p1 = some (.lst (as.map V.ref)) ∧ Chn X.K H' p1 as sts ∧ sts.length ≤ i ∧ prodI sts ≤ lim)
      ⟨[], [], _, _, _, rfl, s1, f1, ⟨SqL.of f1, rfl, fun i a st h => by simp at h, fun st h => by simp at h⟩, Nat.le_refl _, l0⟩ ?_ ?_⟩
    · rintro i σ H0 hi ⟨as, sts, v1, v2, v3, rfl, s0, f0, hC, hn, hp⟩ σ e
      dsimp only [List.set] at e
      subst e
      have hi' : (i : Int) < many := by omega
      refine ⟨_, rfl, _, rfl, _, rfl, _, _, rfl, rfl, a, ns, _, rfl, s0.seq hS, (by omega), (by omega), fun σ e => ?_⟩
      dsimp only [List.set] at e
      generalize drawAt ns (bs + (0 + (i : Int))) = cl at e
      subst e
      refine ⟨_, rfl, _, _, rfl, rfl, ⟨by decide, by decide +kernel⟩, _, rfl, _, rfl, _, _, rfl, rfl, (by decide : (0 : Int) < 4), _, _, rfl, _, _, rfl, ?_, ?_, fun p st H2 s2 hT hO σ e => ?_⟩
      · have := md0 (x := cl) (n := 4) (by decide)
        split <;> omega
      · have := md1 (x := cl) (n := 4) (by decide)
        split <;> omega
      dsimp only [List.set] at e
      subst e
      refine ⟨_, rfl, _, rfl, (small' (by show 1 ≤ 1000; decide)), fun p3 H3 n3 s3 f3 => ?_⟩
      have hC3 := hC.same (s2.trans s3)
      have f3' := (s2.trans s3) _ _ f0
      have hlen : (as.map V.ref).length = sts.length := by rw [List.length_map, hC.len]
      refine ⟨p1, p3, _, _, rfl, rfl, f3', f3, ?_, fun p4 n4 => ?_⟩
      · refine small' ?_
        rw [hlen]; show sts.length + 1 ≤ 1000; omega
      have s4 : ∀ o, Same H3 (upd H3 p4 o) := fun o => same_new n4 o
      have hC4 : Chn X.K (upd H3 p4 (.lst ((as ++ [p]).map V.ref))) p4 (as ++ [p]) (sts ++ [st]) := by
        refine ⟨SqL.of upd_same, by rw [List.length_append, List.length_append, hC.len]; rfl, fun j b t h1 h2 => ?_, fun t ht => ?_⟩
        · by_cases hj : j < as.length
          · rw [List.getElem?_append_left hj] at h1
            rw [List.getElem?_append_left (by rw [← hC.len]; exact hj)] at h2
            exact (s4 _).seqT (hC3.item j b t h1 h2)
          · have hj' : j = as.length := by
              have := (List.getElem?_eq_some_iff.mp h1).1
              rw [List.length_append] at this
              have : ([p] : List Addr).length = 1 := rfl
              omega
            subst hj'
            rw [List.getElem?_append_right (Nat.le_refl _)] at h1
            rw [hC.len, List.getElem?_append_right (Nat.le_refl _)] at h2
            simp at h1 h2
            subst h1 h2
            exact (s4 _).seqT (s3.seqT hT)
        · rcases List.mem_append.mp ht with h | h
          · exact hC.ok t h
          · rw [List.mem_singleton.mp h]; exact hO
      have em : as.map V.ref ++ [V.ref p] = (as ++ [p]).map V.ref := by rw [List.map_append]; rfl
      refine ⟨p4, as ++ [p], sts ++ [st], rfl, ?_, _, rfl, _, _, rfl, rfl, _, rfl, ?_⟩
      · rw [em]; exact hC4
      refine if2 (fun d => ?_) (fun d => ?_)
      · have hC5 := hC4
        rw [← em] at hC5
        have f4 := (s4 (.lst (as.map V.ref ++ [V.ref p]))) _ _ f3'
        refine ⟨_, rfl, .inl ⟨rfl, _, SqL.of f4⟩, _, rfl, p1, _, _, rfl, rfl, f4, small1000 (by rw [hlen]; omega), ?_⟩
        refine ⟨as ++ [p], sts ++ [st], _, _, _, rfl, (s0.trans (s2.trans (s3.trans (s4 _)))).drop n1 rfl, by rw [upd_same, em], ⟨SqL.of (by rw [upd_same, em]), hC4.len, fun j b t h1 h2 => (hC5.item j b t h1 h2).updL f4, hC4.ok⟩, ?_, d⟩
        rw [List.length_append]
        show sts.length + 1 ≤ i + 1
        omega
      · exact ⟨as, sts, _, _, _, rfl, s0.trans (s2.trans (s3.trans (s4 _))), (s4 _) _ _ f3', hC3.same (s4 _), by omega, hp⟩
    · rintro σ H' ⟨as, sts, v1, v2, v3, rfl, s0, f0, hC, hn, hp⟩
      refine ⟨_, rfl, q p1 as sts H' s0 n1 f0 hC (by omega) hp⟩
theorem cal_law_chain {P : Program} {w : World} {K : PySem.W.Frag} {mg : Str → Option Value} {base : Heap} {f : Addr} {fd : FuncData} (F : Fun K "_law_chain" "_law_chain" s_law_chain f fd) (b : Binds K fd ["_law_script", "_law_base", "_law_many", "_law_limit"] []) (m : mg "_law_chain" = some (.ref f)) (z_range : mg "range" = none) (z_min : mg "min" = none) (C_law_draw : Cal P w K mg base "_law_draw" 2 ["_law_script", "_law_k"] (sp_law_draw K)) (C_law_step : Cal P w K mg base "_law_step" 1 ["_law_cell", "_law_size"] (sp_law_step K)) (C_law_at : Cal P w K mg base "_law_at" 1 ["_law_script", "_law_k"] (sp_law_at K)) (C_law_product : Cal P w K mg base "_law_product" 3 ["_law_steps"] (sp_law_product K)) : Cal P w K mg base "_law_chain" 4 ["_law_script", "_law_base", "_law_many", "_law_limit"] (sp_law_chain K) :=
  ⟨f, fd, F.ok sc_law_chain (fun vs H Q E h => by first | (obtain ⟨_, rfl, _⟩ := h; rfl) | (obtain ⟨_, _, rfl, _⟩ := h; rfl) | (obtain ⟨_, _, _, rfl, _⟩ := h; rfl) | (obtain ⟨_, _, _, _, rfl, _⟩ := h; rfl) | (obtain ⟨_, _, _, _, _, rfl, _⟩ := h; rfl) | (obtain ⟨_, _, _, _, _, _, rfl, _⟩ := h; rfl) | (obtain ⟨_, _, _, _, _, _, _, rfl, _⟩ := h; rfl) | (obtain ⟨_, _, _, _, _, _, _, _, rfl, _⟩ := h; rfl) | (obtain ⟨_, _, _, _, _, _, _, _, _, rfl, _⟩ := h; rfl)) (fun cdv A outer s H vs Q E hr h => unW (body_law_chain (X := (cxOf CX0 P w K mg base ["_law_script", "_law_base", "_law_many", "_law_limit", "_law_size", "_law_steps", "_law_k", "_law_cell", "_law_step_here"] "_law_chain" (defScope s_law_chain) f cdv A outer s H E).nox) ⟨rfl, rfl, rfl, PassesOwn.never⟩ hr z_range z_min C_law_draw C_law_step C_law_at C_law_product h)), b, F.kp, m⟩
theorem lk_law_0 : (defScope s_law).names.lookup ("_law_script" : Str) = some .local := by decide +kernel
theorem pv_law_0 {X : Cx} (c : CxIs X ["_law_script", "_law_steps", "_law_handed", "_law_k", "_law_far", "_law_place", "_law_due", "_law_found"] (defScope s_law)) {pos : Pos} : WE X (.Name "_law_script" pos) (tVar 0) := wxv c rfl lk_law_0 (by decide) (by decide)
theorem lk_law_1 : (defScope s_law).names.lookup ("_law_steps" : Str) = some .local := by decide +kernel
theorem pv_law_1 {X : Cx} (c : CxIs X ["_law_script", "_law_steps", "_law_handed", "_law_k", "_law_far", "_law_place", "_law_due", "_law_found"] (defScope s_law)) {pos : Pos} : WE X (.Name "_law_steps" pos) (tVar 1) := wxv c rfl lk_law_1 (by decide) (by decide)
theorem ss_law_1 {X : Cx} (c : CxIs X ["_law_script", "_law_steps", "_law_handed", "_law_k", "_law_far", "_law_place", "_law_due", "_law_found"] (defScope s_law)) {pos pos' : Pos} {e : Expr} {te : TE} (he : WE X e te) (hs : swapsWith e (some (.Name "_law_steps" pos')) pos.line X.env = pure false := by rfl) : WS X (.Assign [.Name "_law_steps" pos'] e pos) (tAsg te (gN 1)) := wxs c sc_law.nd rfl lk_law_1 he hs
theorem lk_law_2 : (defScope s_law).names.lookup ("_law_handed" : Str) = some .local := by decide +kernel
theorem pv_law_2 {X : Cx} (c : CxIs X ["_law_script", "_law_steps", "_law_handed", "_law_k", "_law_far", "_law_place", "_law_due", "_law_found"] (defScope s_law)) {pos : Pos} : WE X (.Name "_law_handed" pos) (tVar 2) := wxv c rfl lk_law_2 (by decide) (by decide)
theorem ss_law_2 {X : Cx} (c : CxIs X ["_law_script", "_law_steps", "_law_handed", "_law_k", "_law_far", "_law_place", "_law_due", "_law_found"] (defScope s_law)) {pos pos' : Pos} {e : Expr} {te : TE} (he : WE X e te) (hs : swapsWith e (some (.Name "_law_handed" pos')) pos.line X.env = pure false := by rfl) : WS X (.Assign [.Name "_law_handed" pos'] e pos) (tAsg te (gN 2)) := wxs c sc_law.nd rfl lk_law_2 he hs
theorem lk_law_3 : (defScope s_law).names.lookup ("_law_k" : Str) = some .local := by decide +kernel
theorem pv_law_3 {X : Cx} (c : CxIs X ["_law_script", "_law_steps", "_law_handed", "_law_k", "_law_far", "_law_place", "_law_due", "_law_found"] (defScope s_law)) {pos : Pos} : WE X (.Name "_law_k" pos) (tVar 3) := wxv c rfl lk_law_3 (by decide) (by decide)
theorem sg_law_3 {X : Cx} (c : CxIs X ["_law_script", "_law_steps", "_law_handed", "_law_k", "_law_far", "_law_place", "_law_due", "_law_found"] (defScope s_law)) {pos : Pos} : WG X (.Name "_law_k" pos) (gN 3) := wxt c sc_law.nd rfl lk_law_3
theorem lk_law_4 : (defScope s_law).names.lookup ("_law_far" : Str) = some .local := by decide +kernel
theorem pv_law_4 {X : Cx} (c : CxIs X ["_law_script", "_law_steps", "_law_handed", "_law_k", "_law_far", "_law_place", "_law_due", "_law_found"] (defScope s_law)) {pos : Pos} : WE X (.Name "_law_far" pos) (tVar 4) := wxv c rfl lk_law_4 (by decide) (by decide)
theorem ss_law_4 {X : Cx} (c : CxIs X ["_law_script", "_law_steps", "_law_handed", "_law_k", "_law_far", "_law_place", "_law_due", "_law_found"] (defScope s_law)) {pos pos' : Pos} {e : Expr} {te : TE} (he : WE X e te) (hs : swapsWith e (some (.Name "_law_far" pos')) pos.line X.env = pure false := by rfl) : WS X (.Assign [.Name "_law_far" pos'] e pos) (tAsg te (gN 4)) := wxs c sc_law.nd rfl lk_law_4 he hs
theorem lk_law_5 : (defScope s_law).names.lookup ("_law_place" : Str) = some .local := by decide +kernel
theorem pv_law_5 {X : Cx} (c : CxIs X ["_law_script", "_law_steps", "_law_handed", "_law_k", "_law_far", "_law_place", "_law_due", "_law_found"] (defScope s_law)) {pos : Pos} : WE X (.Name "_law_place" pos) (tVar 5) := wxv c rfl lk_law_5 (by decide) (by decide)
theorem sg_law_5 {X : Cx} (c : CxIs X ["_law_script", "_law_steps", "_law_handed", "_law_k", "_law_far", "_law_place", "_law_due", "_law_found"] (defScope s_law)) {pos : Pos} : WG X (.Name "_law_place" pos) (gN 5) := wxt c sc_law.nd rfl lk_law_5
theorem lk_law_6 : (defScope s_law).names.lookup ("_law_due" : Str) = some .local := by decide +kernel
theorem pv_law_6 {X : Cx} (c : CxIs X ["_law_script", "_law_steps", "_law_handed", "_law_k", "_law_far", "_law_place", "_law_due", "_law_found"] (defScope s_law)) {pos : Pos} : WE X (.Name "_law_due" pos) (tVar 6) := wxv c rfl lk_law_6 (by decide) (by decide)
theorem ss_law_6 {X : Cx} (c : CxIs X ["_law_script", "_law_steps", "_law_handed", "_law_k", "_law_far", "_law_place", "_law_due", "_law_found"] (defScope s_law)) {pos pos' : Pos} {e : Expr} {te : TE} (he : WE X e te) (hs : swapsWith e (some (.Name "_law_due" pos')) pos.line X.env = pure false := by rfl) : WS X (.Assign [.Name "_law_due" pos'] e pos) (tAsg te (gN 6)) := wxs c sc_law.nd rfl lk_law_6 he hs
theorem lk_law_7 : (defScope s_law).names.lookup ("_law_found" : Str) = some .local := by decide +kernel
theorem pv_law_7 {X : Cx} (c : CxIs X ["_law_script", "_law_steps", "_law_handed", "_law_k", "_law_far", "_law_place", "_law_due", "_law_found"] (defScope s_law)) {pos : Pos} : WE X (.Name "_law_found" pos) (tVar 7) := wxv c rfl lk_law_7 (by decide) (by decide)
theorem ss_law_7 {X : Cx} (c : CxIs X ["_law_script", "_law_steps", "_law_handed", "_law_k", "_law_far", "_law_place", "_law_due", "_law_found"] (defScope s_law)) {pos pos' : Pos} {e : Expr} {te : TE} (he : WE X e te) (hs : swapsWith e (some (.Name "_law_found" pos')) pos.line X.env = pure false := by rfl) : WS X (.Assign [.Name "_law_found" pos'] e pos) (tAsg te (gN 7)) := wxs c sc_law.nd rfl lk_law_7 he hs
theorem gl_law_law_chain {X : Cx} (c : CxIs X ["_law_script", "_law_steps", "_law_handed", "_law_k", "_law_far", "_law_place", "_law_due", "_law_found"] (defScope s_law)) : Gl X "_law_chain" := xg c (by decide +kernel)
theorem gl_law_exchanged {X : Cx} (c : CxIs X ["_law_script", "_law_steps", "_law_handed", "_law_k", "_law_far", "_law_place", "_law_due", "_law_found"] (defScope s_law)) : Gl X "exchanged" := xg c (by decide +kernel)
theorem gl_law_law_draw {X : Cx} (c : CxIs X ["_law_script", "_law_steps", "_law_handed", "_law_k", "_law_far", "_law_place", "_law_due", "_law_found"] (defScope s_law)) : Gl X "_law_draw" := xg c (by decide +kernel)
theorem gl_law_law_same_chain {X : Cx} (c : CxIs X ["_law_script", "_law_steps", "_law_handed", "_law_k", "_law_far", "_law_place", "_law_due", "_law_found"] (defScope s_law)) : Gl X "_law_same_chain" := xg c (by decide +kernel)
theorem gl_law_law_refused {X : Cx} (c : CxIs X ["_law_script", "_law_steps", "_law_handed", "_law_k", "_law_far", "_law_place", "_law_due", "_law_found"] (defScope s_law)) : Gl X "_law_refused" := xg c (by decide +kernel)
theorem gl_law_list {X : Cx} (c : CxIs X ["_law_script", "_law_steps", "_law_handed", "_law_k", "_law_far", "_law_place", "_law_due", "_law_found"] (defScope s_law)) : Gl X "list" := xg c (by decide +kernel)
theorem gl_law_range {X : Cx} (c : CxIs X ["_law_script", "_law_steps", "_law_handed", "_law_k", "_law_far", "_law_place", "_law_due", "_law_found"] (defScope s_law)) : Gl X "range" := xg c (by decide +kernel)
theorem gl_law_len {X : Cx} (c : CxIs X ["_law_script", "_law_steps", "_law_handed", "_law_k", "_law_far", "_law_place", "_law_due", "_law_found"] (defScope s_law)) : Gl X "len" := xg c (by decide +kernel)
theorem st_law (v0 : V) : L2.start ["_law_script", "_law_steps", "_law_handed", "_law_k", "_law_far", "_law_place", "_law_due", "_law_found"] [v0] = [some v0, none, none, none, none, none, none, none] := rfl
noncomputable def sp_law (K : PySem.W.Frag) : Sp := fun vs H Q _ => ∃ (a : Addr) (ns : List Int), vs = [.ref a] ∧ SqL K H a (ns.map V.int) ∧ ns.length ≤ 63 ∧ BitsOk ns ∧ ∀ H', Q (.bl true) H'
theorem body_law {X : Cx} (c : CxIs X ["_law_script", "_law_steps", "_law_handed", "_law_k", "_law_far", "_law_place", "_law_due", "_law_found"] (defScope s_law)) (hr : Room 4 X.A) {E : XK}  (z_list : X.mg "list" = none) (z_range : X.mg "range" = none) (z_len : X.mg "len" = none) (C_law_chain : Cal X.prog X.w X.K X.mg X.base "_law_chain" 4 ["_law_script", "_law_base", "_law_many", "_law_limit"] (sp_law_chain X.K)) (C_exchanged : CalX X.prog X.w X.K X.mg X.base "exchanged" 1 ["chain", "k"] (sp_exchanged X.K)) (C_law_draw : Cal X.prog X.w X.K X.mg X.base "_law_draw" 2 ["_law_script", "_law_k"] (sp_law_draw X.K)) (C_law_same_chain : Cal X.prog X.w X.K X.mg X.base "_law_same_chain" 3 ["_law_found", "_law_steps"] (sp_law_same_chain X.K)) (C_law_refused : Cal X.prog X.w X.K X.mg X.base "_law_refused" 3 ["_law_steps", "_law_place", "_law_door"] (sp_law_refused X.K)) {vs : List V} {H : Hp} {Q : VK} (h : sp_law X.K vs H Q E) : ∃ t, WSs X (defBody s_law) t ∧ t { nx := fun _ H' => Q .non H', rt := Q } (L2.start ["_law_script", "_law_steps", "_law_handed", "_law_k", "_law_far", "_law_place", "_law_due", "_law_found"] vs) H := by
  obtain ⟨f_law_chain, d_law_chain, G_law_chain, b_law_chain, k_law_chain, m_law_chain⟩ := C_law_chain
  obtain ⟨f_exchanged, d_exchanged, G_exchanged, b_exchanged, k_exchanged, m_exchanged⟩ := C_exchanged
  obtain ⟨f_law_draw, d_law_draw, G_law_draw, b_law_draw, k_law_draw, m_law_draw⟩ := C_law_draw
  obtain ⟨f_law_same_chain, d_law_same_chain, G_law_same_chain, b_law_same_chain, k_law_same_chain, m_law_same_chain⟩ := C_law_same_chain
  obtain ⟨f_law_refused, d_law_refused, G_law_refused, b_law_refused, k_law_refused, m_law_refused⟩ := C_law_refused
  · obtain ⟨a, ns, rfl, hS, hl, hb, q⟩ := h
    refine ⟨_, (wss_cons (ss_law_1 c (we_call (G_law_chain.mono (by decide)) hr (gl_law_law_chain c) m_law_chain k_law_chain b_law_chain .nil pass0 (wa_cons (pv_law_0 c) (wa_cons we_int (wa_cons (we_op op_mod (we_call (G_law_draw.mono (by decide)) hr (gl_law_law_draw c) m_law_draw k_law_draw b_law_draw .nil pass0 (wa_cons (pv_law_0 c) (wa_cons we_int wa_nil star_Constant) star_Name)) we_int) (wa_cons we_int wa_nil star_Constant) star_BinOp) star_Constant) star_Name)))
      (wss_cons (ss_law_2 c (we_callTy call_list_ofO (gl_law_list c) z_list boot_ty_list (wa_cons (pv_law_1 c) wa_nil star_Name)))
      (wss_cons (ws_for c.own c.calm (wi_range2 (gl_law_range c) z_range (wa_cons we_int (wa_cons (we_callB call_len_seq (gl_law_len c) z_len PySem.boot_len (wa_cons (pv_law_1 c) wa_nil star_Name)) wa_nil star_Call) star_Constant)) (sg_law_3 c)
      (wss_cons (ss_law_6 c (we_op op_catO (we_op op_catO (we_slice sl_listO (pv_law_1 c) wo_none (wo_some (we_op op_sub (pv_law_3 c) we_int))) (we_lstO (wa_cons (we_ix ix_list (pv_law_1 c) (pv_law_3 c) plain_Name) (wa_cons (we_ix ix_list (pv_law_1 c) (we_op op_sub (pv_law_3 c) we_int) plain_BinOp) wa_nil star_Subscript) star_Subscript))) (we_slice sl_listO (pv_law_1 c) (wo_some (we_op op_add (pv_law_3 c) we_int)) wo_none)))
      (wss_cons (ss_law_7 c (we_callS (G_exchanged.mono (by decide)) hr (gl_law_exchanged c) m_exchanged k_exchanged b_exchanged .nil pass1S (wa_cons (pv_law_2 c) (wa_cons (pv_law_3 c) wa_nil star_Name) star_Name)))
      (wss_cons (ws_if (WW.pt (ww_or (wt_not (wt_val (we_call (G_law_same_chain.mono (by decide)) hr (gl_law_law_same_chain c) m_law_same_chain k_law_same_chain b_law_same_chain .nil pass0 (wa_cons (pv_law_7 c) (wa_cons (pv_law_6 c) wa_nil star_Name) star_Name)))) (ww_or1 (wt_not (wt_val (we_call (G_law_same_chain.mono (by decide)) hr (gl_law_law_same_chain c) m_law_same_chain k_law_same_chain b_law_same_chain .nil pass0 (wa_cons (pv_law_2 c) (wa_cons (pv_law_1 c) wa_nil star_Name) star_Name)))))))
      (wss_one (ws_ret we_bl))
      wss_nil)
      (wss_cons (ws_expr (we_bm0 PySem.F.plainAttrs_list PySem.F.slot_list_reverse PySem.F.type_list_reverse mt_reverse (pv_law_7 c)))
      (wss_cons (ws_expr (we_bm PySem.F.plainAttrs_list PySem.F.slot_list_append PySem.F.type_list_append mt_append (pv_law_7 c) (wa_cons (we_ix ix_list (pv_law_1 c) we_int plain_Constant) wa_nil star_Subscript)))
      (wss_one (ws_if (wt_not (wt_val (we_call (G_law_same_chain.mono (by decide)) hr (gl_law_law_same_chain c) m_law_same_chain k_law_same_chain b_law_same_chain .nil pass0 (wa_cons (pv_law_2 c) (wa_cons (pv_law_1 c) wa_nil star_Name) star_Name))))
      (wss_one (ws_ret we_bl))
      wss_nil))))))))
      (wss_cons (ss_law_4 c (we_op op_add we_int (we_op op_mod (we_call (G_law_draw.mono (by decide)) hr (gl_law_law_draw c) m_law_draw k_law_draw b_law_draw .nil pass0 (wa_cons (pv_law_0 c) (wa_cons we_int wa_nil star_Constant) star_Name)) (we_op op_pow we_int we_int))))
      (wss_cons (ws_for c.own c.calm (wi_list (we_lstO (wa_cons we_int (wa_cons (we_un un_neg we_int) (wa_cons (we_callB call_len_seq (gl_law_len c) z_len PySem.boot_len (wa_cons (pv_law_1 c) wa_nil star_Name)) (wa_cons (we_op op_add (we_callB call_len_seq (gl_law_len c) z_len PySem.boot_len (wa_cons (pv_law_1 c) wa_nil star_Name)) we_int) (wa_cons (we_op op_add (we_callB call_len_seq (gl_law_len c) z_len PySem.boot_len (wa_cons (pv_law_1 c) wa_nil star_Name)) (pv_law_4 c)) (wa_cons (we_op op_sub we_int (pv_law_4 c)) wa_nil star_BinOp) star_BinOp) star_BinOp) star_Call) star_UnaryOp) star_Constant))) (sg_law_5 c)
      (wss_one (ws_if (WW.pt (ww_or (wt_not (wt_val (we_call (G_law_refused.mono (by decide)) hr (gl_law_law_refused c) m_law_refused k_law_refused b_law_refused .nil pass0 (wa_cons (pv_law_1 c) (wa_cons (pv_law_5 c) (wa_cons we_int wa_nil star_Constant) star_Name) star_Name)))) (ww_or1 (wt_not (wt_val (we_call (G_law_refused.mono (by decide)) hr (gl_law_law_refused c) m_law_refused k_law_refused b_law_refused .nil pass0 (wa_cons (pv_law_1 c) (wa_cons (pv_law_5 c) (wa_cons we_int wa_nil star_Constant) star_Name) star_Name)))))))
      (wss_one (ws_ret we_bl))
      wss_nil)))
      (wss_one (ws_ret we_bl))))))), ?_⟩
    rw [st_law]
    have y0 := md0 (x := drawAt ns 1) (n := 7) (by decide)
    have y1 := md1 (x := drawAt ns 1) (n := 7) (by decide)
    refine ⟨_, rfl, _, rfl, a, ns, _, rfl, hS, by decide, by decide, _, _, rfl, rfl, (by decide : (0 : Int) < 7), a, ns, _, _, _, rfl, hS, by decide, by decide, by omega, by omega, by decide, fun l as sts H1 s1 n1 f1 hC hn hp σ e => ?_⟩
    dsimp only [List.set] at e
    subst e
    have h6 : sts.length ≤ 6 := by omega
    have hlen : (as.map V.ref).length = sts.length := by rw [List.length_map, hC.len]
    have al := hC.len
    refine ⟨_, rfl, _, _, rfl, .inl hC.lst, fun hd H5 n5 s5 f5 σ e => ?_⟩
    dsimp only [List.set] at e
    subst e
    have hD := hC.copy (p := hd) s5 f5
    have hC5 := hC.same s5
    refine ⟨_, rfl, _, _, rfl, .inl hC5.lst, _, _, rfl, ⟨by decide, by decide, by rw [hlen]; omega, by rw [hlen]; omega⟩, for_range (fun i σ H' => Same H5 H' ∧ ∃ v1 v2 v3 v4 v5, σ = [some (.ref a), some (.ref l), some (.ref hd), v1, v2, v3, v4, v5])
      ⟨Same.refl _, _, _, _, _, _, rfl⟩ ?_ ?_⟩
    · rintro i σ H6 hi ⟨s6, v1, v2, v3, v4, v5, rfl⟩ σ e
      rw [hlen] at hi
      dsimp only [List.set] at e
      have ek : (1 : Int) + (i : Int) = ((i + 1 : Nat) : Int) := by omega
      rw [ek] at e
      subst e
      have k1 : 1 ≤ i + 1 := by omega
      have k2 : i + 1 < sts.length := by omega
      have k2' : i + 1 < as.length := by omega
      have hC6 := hC5.same s6
      have hD6 := hD.same s6
      have em1 : ((i + 1 : Nat) : Int) - 1 = (i : Int) := by omega
      have ep1 : ((i + 1 : Nat) : Int) + 1 = ((i + 2 : Nat) : Int) := by omega
      refine ⟨_, rfl, _, rfl, _, _, rfl, rfl, _, rfl, l, _, rfl, hC6.lst, fun p7 H7 n7 s7 f7 => ?_⟩
      rw [em1, cut_take] at f7
      have hL7 := s7.seq hC6.lst
      refine ⟨_, rfl, _, rfl, l, _, _, _, rfl, rfl, hL7, atI_nat (j := i + 1) (by rw [List.getElem?_map, List.getElem?_eq_getElem k2']; rfl), _, rfl, _, rfl, _, _, rfl, rfl, l, _, _, _, rfl, rfl, hL7, by rw [em1]; exact atI_nat (j := i) (by rw [List.getElem?_map, List.getElem?_eq_getElem (show i < as.length by omega)]; rfl), (small' (by show 2 ≤ 1000; decide)), fun p8 H8 n8 s8 f8 => ?_⟩
      refine ⟨p7, p8, _, _, rfl, rfl, s8 _ _ f7, f8, Nat.le_trans (show _ ≤ 1000 by rw [List.length_map, List.length_take]; show min i as.length + 2 ≤ 1000; omega) (by decide), fun p9 H9 n9 s9 f9 => ?_⟩
      have s79 := s7.trans (s8.trans s9)
      refine ⟨_, rfl, _, rfl, _, _, rfl, rfl, _, rfl, l, _, rfl, s79.seq hC6.lst, fun pA HA nA sA fA => ?_⟩
      rw [ep1, cut_drop _ _ _ (by omega)] at fA
      refine ⟨p9, pA, _, _, rfl, rfl, sA _ _ f9, fA, Nat.le_trans (show _ ≤ 1000 by rw [List.length_append, List.length_map, List.length_map, List.length_take, List.length_drop]; show min i as.length + 2 + _ ≤ 1000; omega) (by decide), fun pB HB nB sB fB σ e => ?_⟩
      dsimp only [List.set] at e
      subst e
      have s7B := s79.trans (sA.trans sB)
      have ef : (List.map V.ref (as.take i) ++ [V.ref as[i + 1], V.ref as[i]] ++ List.map V.ref (as.drop (i + 2))) = ((as.take i ++ [as[i + 1], as[i]]) ++ as.drop (i + 2)).map V.ref := by
        rw [List.map_append, List.map_append]; rfl
      rw [ef] at fB
      have P := prd_same hC6.prd s7B
      have at1 : ∀ (j : Nat) (hj : j < as.length) (hj' : j < sts.length), StepAt X.K HB as[j] sts[j] := fun j hj hj' => prd_get P (List.getElem?_eq_getElem hj) (List.getElem?_eq_getElem hj')
      have cO : Chn X.K HB pB _ ((sts.take i ++ [sts[i + 1], sts[i]]) ++ sts.drop (i + 2)) := chn_prd fB (prd_app (prd_app (prd_take i P) (.cons (at1 _ _ _) (.cons (at1 _ _ _) .nil))) (prd_drop (i + 2) P))
      have eS : swapK sts (i + 1) = (sts.take i ++ [sts[i + 1], sts[i]]) ++ sts.drop (i + 2) := swap_eq k1 k2
      rw [← eS] at cO
      have hCB := hC6.same s7B
      have hDB := hD6.same s7B
      refine ⟨_, rfl, _, rfl, hd, as, sts, _, rfl, hDB, h6, fun _ pE asE HE sE nE fE cE σ e => ?_, fun z => absurd z (by omega)⟩
      dsimp only [List.set] at e
      subst e
      rw [Int.toNat_natCast] at cE
      have hsw := swap_len k1 k2
      have lE : asE.length = sts.length := by rw [cE.len, hsw]
      refine ⟨_, rfl, _, rfl, pE, pB, _, _, _, rfl, cE, cO.same sE, by omega, fun HF sF => ?_⟩
      refine ⟨_, rfl, ?_⟩
      refine iteF ?_
      have sBF := sE.trans sF
      refine ⟨_, rfl, _, rfl, hd, l, _, _, _, rfl, hDB.same sBF, hCB.same sBF, by omega, fun HG sG => ?_⟩
      refine ⟨_, rfl, ?_⟩
      refine iteF ?_
      have sBG := sBF.trans sG
      have fG := sG _ _ (sF _ _ fE)
      refine ⟨_, rfl, .inl ⟨rfl, _, SqL.of fG⟩, pE, _, rfl, rfl, fG, ?_⟩
      have sR : Same HB (L2.upd HG pE (.lst (asE.map V.ref).reverse)) := sBG.drop nE rfl
      refine ⟨_, rfl, .inl ⟨rfl, _, SqL.of upd_same⟩, ?_⟩
      refine ⟨_, rfl, l, _, _, _, rfl, rfl, (hCB.same sR).lst, atI_nat (j := 0) (by rw [List.getElem?_map, List.getElem?_eq_getElem (show 0 < as.length by omega)]; rfl), pE, _, _, rfl, rfl, upd_same, small1000 (by rw [List.length_reverse, List.length_map]; omega), ?_⟩
      have sR2 : Same HB (L2.upd (L2.upd HG pE (.lst (asE.map V.ref).reverse)) pE (.lst ((asE.map V.ref).reverse ++ [.ref as[0]]))) := sR.drop nE rfl
      generalize L2.upd (L2.upd HG pE (.lst (asE.map V.ref).reverse)) pE (.lst ((asE.map V.ref).reverse ++ [.ref as[0]])) = HI at sR2 ⊢
      refine ⟨_, rfl, _, rfl, hd, l, _, _, _, rfl, hDB.same sR2, hCB.same sR2, by omega, fun HJ sJ => ?_⟩
      refine ⟨_, rfl, ?_⟩
      refine iteF ?_
      exact ⟨s6.trans (s7B.trans (sR2.trans sJ)), _, _, _, _, _, rfl⟩
    · rintro σ H6 ⟨s6, v1, v2, v3, v4, v5, rfl⟩
      have far0 := md0 (x := drawAt ns 8) (n := 10 ^ Int.toNat 40) (by decide)
      refine ⟨_, rfl, a, ns, _, rfl, (s1.trans (s5.trans s6)).seq hS, by decide, by decide, _, _, rfl, rfl, ⟨by decide, by decide, by decide⟩, _, _, rfl, rfl, (by decide : (0 : Int) < 10 ^ Int.toNat 40), _, _, rfl, rfl, fun σ e => ?_⟩
      dsimp only [List.set] at e
      generalize drawAt ns 8 % 10 ^ Int.toNat 40 = far at e far0
      subst e
      have hC6 := hC5.same s6
      have hD6 := hD.same s6
      refine ⟨_, rfl, _, rfl, _, _, rfl, .inl hC6.lst, _, rfl, _, _, rfl, .inl hC6.lst, _, _, rfl, rfl, _, rfl, _, _, rfl, .inl hC6.lst, _, rfl, _, _, rfl, rfl, _, rfl, _, _, rfl, rfl, (small' (by show 6 ≤ 1000; decide)), fun p7 H7 n7 s7 f7 => ?_⟩
      rw [hlen] at f7
      refine ⟨p7, rfl, ⟨_, SqL.of f7⟩, for_list (fun i σ H' => Same H7 H' ∧ ∃ v1 v2 v3 v4, σ = [some (.ref a), some (.ref l), some (.ref hd), v1, some (.int (1 + far)), v2, v3, v4])
        ⟨Same.refl _, _, _, _, _, rfl⟩ (fun _ _ _ _ ⟨s8, _⟩ => s8.seq (SqL.of f7)) ?_ ?_⟩
      · rintro i x σ H8 hx ⟨s8, v1, v2, v3, v4, rfl⟩ σ e
        dsimp only [List.set] at e
        subst e
        obtain ⟨z, rfl, hz⟩ : ∃ z, x = V.int z ∧ (z < 1 ∨ (sts.length : Int) ≤ z) := by
          have hm := List.mem_of_getElem? hx
          simp only [List.mem_cons, List.not_mem_nil, or_false] at hm
          rcases hm with rfl | rfl | rfl | rfl | rfl | rfl <;> exact ⟨_, rfl, by omega⟩
        have hC8 := hC6.same (s7.trans s8)
        refine ⟨_, rfl, _, rfl, l, as, sts, z, 0, rfl, hC8, h6, hz, fun H9 s9 => ?_⟩
        refine ⟨_, rfl, ?_⟩
        refine iteF ?_
        refine ⟨_, rfl, _, rfl, l, as, sts, z, 1, rfl, hC8.same s9, h6, hz, fun HA sA => ?_⟩
        refine ⟨_, rfl, ?_⟩
        refine iteF ?_
        exact ⟨s8.trans (s9.trans sA), _, _, _, _, rfl⟩
      · rintro σ H8 ⟨s8, v1, v2, v3, v4, rfl⟩
        exact q _
theorem ok_law {P : Program} {w : World} {K : PySem.W.Frag} {mg : Str → Option Value} {base : Heap} {f : Addr} {fd : FuncData} (F : Fun K "law" "law" s_law f fd) (z_list : mg "list" = none) (z_range : mg "range" = none) (z_len : mg "len" = none) (C_law_chain : Cal P w K mg base "_law_chain" 4 ["_law_script", "_law_base", "_law_many", "_law_limit"] (sp_law_chain K)) (C_exchanged : CalX P w K mg base "exchanged" 1 ["chain", "k"] (sp_exchanged K)) (C_law_draw : Cal P w K mg base "_law_draw" 2 ["_law_script", "_law_k"] (sp_law_draw K)) (C_law_same_chain : Cal P w K mg base "_law_same_chain" 3 ["_law_found", "_law_steps"] (sp_law_same_chain K)) (C_law_refused : Cal P w K mg base "_law_refused" 3 ["_law_steps", "_law_place", "_law_door"] (sp_law_refused K)) : FnOk P w K mg base CX0 5 f fd ["_law_script"] (sp_law K) :=
  F.ok sc_law (fun vs H Q E h => by first | (obtain ⟨_, rfl, _⟩ := h; rfl) | (obtain ⟨_, _, rfl, _⟩ := h; rfl) | (obtain ⟨_, _, _, rfl, _⟩ := h; rfl) | (obtain ⟨_, _, _, _, rfl, _⟩ := h; rfl) | (obtain ⟨_, _, _, _, _, rfl, _⟩ := h; rfl) | (obtain ⟨_, _, _, _, _, _, rfl, _⟩ := h; rfl) | (obtain ⟨_, _, _, _, _, _, _, rfl, _⟩ := h; rfl) | (obtain ⟨_, _, _, _, _, _, _, _, rfl, _⟩ := h; rfl) | (obtain ⟨_, _, _, _, _, _, _, _, _, rfl, _⟩ := h; rfl)) (fun cdv A outer s H vs Q E hr h => unW (body_law (X := (cxOf CX0 P w K mg base ["_law_script", "_law_steps", "_law_handed", "_law_k", "_law_far", "_law_place", "_law_due", "_law_found"] "law" (defScope s_law) f cdv A outer s H E).nox) ⟨rfl, rfl, rfl, PassesOwn.never⟩ hr z_list z_range z_len C_law_chain C_exchanged C_law_draw C_law_same_chain C_law_refused h))
theorem all_mk {l : PySem.W.OpenLaw} {w : World} {K : PySem.W.Frag} {h : Heap} {mg : Str → Option Value} {fa : Addr} (X : K.In h) (G : h.Ns mainGlobals mg) (hfa : mg "law" = some (.ref fa))
    {od0 an0 : Option Addr} {sl0 : Array (Option Value)} {oc0 kV0 dc0 pm0 cd0 ct0 : Value} {f0 : Addr}
    {od1 an1 : Option Addr} {sl1 : Array (Option Value)} {oc1 kV1 dc1 pm1 cd1 ct1 : Value} {f1 : Addr}
    {od2 an2 : Option Addr} {sl2 : Array (Option Value)} {oc2 kV2 dc2 pm2 cd2 ct2 : Value} {f2 : Addr}
    {od3 an3 : Option Addr} {sl3 : Array (Option Value)} {oc3 kV3 dc3 pm3 cd3 ct3 : Value} {f3 : Addr}
    {od4 an4 : Option Addr} {sl4 : Array (Option Value)} {oc4 kV4 dc4 pm4 cd4 ct4 : Value} {f4 : Addr}
    {od5 an5 : Option Addr} {sl5 : Array (Option Value)} {oc5 kV5 dc5 pm5 cd5 ct5 : Value} {f5 : Addr}
    {od6 an6 : Option Addr} {sl6 : Array (Option Value)} {oc6 kV6 dc6 pm6 cd6 ct6 : Value} {f6 : Addr}
    {od7 an7 : Option Addr} {sl7 : Array (Option Value)} {oc7 kV7 dc7 pm7 cd7 ct7 : Value} {f7 : Addr}
    {od8 an8 : Option Addr} {sl8 : Array (Option Value)} {oc8 kV8 dc8 pm8 cd8 ct8 : Value} {f8 : Addr}
    {od9 an9 : Option Addr} {sl9 : Array (Option Value)} {oc9 kV9 dc9 pm9 cd9 ct9 : Value} {f9 : Addr}
    {od10 an10 : Option Addr} {sl10 : Array (Option Value)} {oc10 kV10 dc10 pm10 cd10 ct10 : Value} {f10 : Addr}
    {od11 an11 : Option Addr} {sl11 : Array (Option Value)} {oc11 kV11 dc11 pm11 cd11 ct11 : Value} {f11 : Addr}
    {od12 an12 : Option Addr} {sl12 : Array (Option Value)} {oc12 kV12 dc12 pm12 cd12 ct12 : Value} {f12 : Addr}
    {od13 an13 : Option Addr} {sl13 : Array (Option Value)} {oc13 kV13 dc13 pm13 cd13 ct13 : Value} {f13 : Addr}
    {od14 an14 : Option Addr} {sl14 : Array (Option Value)} {oc14 kV14 dc14 pm14 cd14 ct14 : Value} {f14 : Addr}
    {od15 an15 : Option Addr} {sl15 : Array (Option Value)} {oc15 kV15 dc15 pm15 cd15 ct15 : Value} {f15 : Addr}
    {A_NoPlace : Addr} (aC_NoPlace : PySem.W.nsIn K mainGlobals "NoPlace" = some (some (.ref A_NoPlace)))
    {A_Refused : Addr} (aC_Refused : PySem.W.nsIn K mainGlobals "Refused" = some (some (.ref A_Refused)))
    {A_BadStep : Addr} (aC_BadStep : PySem.W.nsIn K mainGlobals "BadStep" = some (some (.ref A_BadStep)))
    {A_TooLong : Addr} (aC_TooLong : PySem.W.nsIn K mainGlobals "TooLong" = some (some (.ref A_TooLong)))
    {A_BadPrice : Addr} (aC_BadPrice : PySem.W.nsIn K mainGlobals "BadPrice" = some (some (.ref A_BadPrice)))
    {A_TooMany : Addr} (aC_TooMany : PySem.W.nsIn K mainGlobals "TooMany" = some (some (.ref A_TooMany)))
    {A_NoEdition : Addr} (aC_NoEdition : PySem.W.nsIn K mainGlobals "NoEdition" = some (some (.ref A_NoEdition)))
    {A_NoSale : Addr} (aC_NoSale : PySem.W.nsIn K mainGlobals "NoSale" = some (some (.ref A_NoSale)))
    (x_NoPlace_ga : PySem.W.findIn K (.ref A_NoPlace) "__getattribute__" = some (some (.builtin "BaseException.__getattribute__")))
    (x_NoPlace_gn : PySem.W.findIn K (.ref A_NoPlace) "__getattr__" = some none)
    (x_NoPlace_hb : PySem.W.mroIn K A_NoPlace (.type "BaseException") = some true)
    (x_NoPlace_hd : PySem.W.hasDictIn K A_NoPlace = true)
    (x_NoPlace_ha : PySem.W.findIn K (.ref A_NoPlace) "__class__" = some (some (.builtin "object.__class__")))
    (x_NoPlace_hn : PySem.W.specialIn K (.builtin "object.__class__") "__get__" = some (some (.builtin "getset_descriptor.__get__")))
    (x_NoPlace_htk : PySem.W.takesIn K (.builtin "object.__class__") = some true)
    (x_NoPlace_hm : PySem.W.mroIn K A_NoPlace (.type "object") = some true)
    (x_NoPlace_q : PySem.W.excIn K A_NoPlace veMro "ValueError.__new__" = true)
    (x_NoPlace_m_Refused : PySem.W.exmOne K (.ref A_NoPlace) (.ref A_Refused) = some true)
    (x_NoPlace_i_Refused : PySem.W.kitOne K (.ref A_NoPlace) (.ref A_Refused) = some true)
    (x_NoPlace_m_BadStep : PySem.W.exmOne K (.ref A_NoPlace) (.ref A_BadStep) = some false)
    (x_NoPlace_i_BadStep : PySem.W.kitOne K (.ref A_NoPlace) (.ref A_BadStep) = some false)
    (x_NoPlace_m_TooLong : PySem.W.exmOne K (.ref A_NoPlace) (.ref A_TooLong) = some false)
    (x_NoPlace_i_TooLong : PySem.W.kitOne K (.ref A_NoPlace) (.ref A_TooLong) = some false)
    (x_NoPlace_m_BadPrice : PySem.W.exmOne K (.ref A_NoPlace) (.ref A_BadPrice) = some false)
    (x_NoPlace_i_BadPrice : PySem.W.kitOne K (.ref A_NoPlace) (.ref A_BadPrice) = some false)
    (x_NoPlace_m_TooMany : PySem.W.exmOne K (.ref A_NoPlace) (.ref A_TooMany) = some false)
    (x_NoPlace_i_TooMany : PySem.W.kitOne K (.ref A_NoPlace) (.ref A_TooMany) = some false)
    (x_NoPlace_m_NoEdition : PySem.W.exmOne K (.ref A_NoPlace) (.ref A_NoEdition) = some false)
    (x_NoPlace_i_NoEdition : PySem.W.kitOne K (.ref A_NoPlace) (.ref A_NoEdition) = some false)
    (x_NoPlace_m_NoSale : PySem.W.exmOne K (.ref A_NoPlace) (.ref A_NoSale) = some false)
    (x_NoPlace_i_NoSale : PySem.W.kitOne K (.ref A_NoPlace) (.ref A_NoSale) = some false)
    (x_NoPlace_m_NoPlace : PySem.W.exmOne K (.ref A_NoPlace) (.ref A_NoPlace) = some true)
    (x_NoPlace_i_NoPlace : PySem.W.kitOne K (.ref A_NoPlace) (.ref A_NoPlace) = some true)
    (x_NoPlace_iv : PySem.W.kitOne K (.ref A_NoPlace) (.type "ValueError") = some true)
    (x_BadPrice_ga : PySem.W.findIn K (.ref A_BadPrice) "__getattribute__" = some (some (.builtin "BaseException.__getattribute__")))
    (x_BadPrice_gn : PySem.W.findIn K (.ref A_BadPrice) "__getattr__" = some none)
    (x_BadPrice_hb : PySem.W.mroIn K A_BadPrice (.type "BaseException") = some true)
    (x_BadPrice_hd : PySem.W.hasDictIn K A_BadPrice = true)
    (x_BadPrice_ha : PySem.W.findIn K (.ref A_BadPrice) "__class__" = some (some (.builtin "object.__class__")))
    (x_BadPrice_hn : PySem.W.specialIn K (.builtin "object.__class__") "__get__" = some (some (.builtin "getset_descriptor.__get__")))
    (x_BadPrice_htk : PySem.W.takesIn K (.builtin "object.__class__") = some true)
    (x_BadPrice_hm : PySem.W.mroIn K A_BadPrice (.type "object") = some true)
    (x_BadPrice_q : PySem.W.excIn K A_BadPrice veMro "ValueError.__new__" = true)
    (x_BadPrice_m_Refused : PySem.W.exmOne K (.ref A_BadPrice) (.ref A_Refused) = some true)
    (x_BadPrice_i_Refused : PySem.W.kitOne K (.ref A_BadPrice) (.ref A_Refused) = some true)
    (x_BadPrice_m_BadStep : PySem.W.exmOne K (.ref A_BadPrice) (.ref A_BadStep) = some false)
    (x_BadPrice_i_BadStep : PySem.W.kitOne K (.ref A_BadPrice) (.ref A_BadStep) = some false)
    (x_BadPrice_m_TooLong : PySem.W.exmOne K (.ref A_BadPrice) (.ref A_TooLong) = some false)
    (x_BadPrice_i_TooLong : PySem.W.kitOne K (.ref A_BadPrice) (.ref A_TooLong) = some false)
    (x_BadPrice_m_BadPrice : PySem.W.exmOne K (.ref A_BadPrice) (.ref A_BadPrice) = some true)
    (x_BadPrice_i_BadPrice : PySem.W.kitOne K (.ref A_BadPrice) (.ref A_BadPrice) = some true)
    (x_BadPrice_m_TooMany : PySem.W.exmOne K (.ref A_BadPrice) (.ref A_TooMany) = some false)
    (x_BadPrice_i_TooMany : PySem.W.kitOne K (.ref A_BadPrice) (.ref A_TooMany) = some false)
    (x_BadPrice_m_NoEdition : PySem.W.exmOne K (.ref A_BadPrice) (.ref A_NoEdition) = some false)
    (x_BadPrice_i_NoEdition : PySem.W.kitOne K (.ref A_BadPrice) (.ref A_NoEdition) = some false)
    (x_BadPrice_m_NoSale : PySem.W.exmOne K (.ref A_BadPrice) (.ref A_NoSale) = some false)
    (x_BadPrice_i_NoSale : PySem.W.kitOne K (.ref A_BadPrice) (.ref A_NoSale) = some false)
    (x_BadPrice_m_NoPlace : PySem.W.exmOne K (.ref A_BadPrice) (.ref A_NoPlace) = some false)
    (x_BadPrice_i_NoPlace : PySem.W.kitOne K (.ref A_BadPrice) (.ref A_NoPlace) = some false)
    (x_BadPrice_iv : PySem.W.kitOne K (.ref A_BadPrice) (.type "ValueError") = some true)
    (a0 : PySem.W.nsIn K mainGlobals "alike" = some (some (.ref f0))) (l0 : K.lookup f0 = some ⟨oc0, od0, .func (PySem.W.fnOf "alike" "alike" (defArgs s_alike) (defBody s_alike) (defScope s_alike) .none kV0 dc0 pm0 an0 cd0 ct0), sl0⟩) (c0 : PySem.W.codeIn K cd0 "alike" = true) (k0 : PySem.W.keepIn K (.ref f0) = true)
    (a1 : PySem.W.nsIn K mainGlobals "exchanged" = some (some (.ref f1))) (l1 : K.lookup f1 = some ⟨oc1, od1, .func (PySem.W.fnOf "exchanged" "exchanged" (defArgs s_exchanged) (defBody s_exchanged) (defScope s_exchanged) .none kV1 dc1 pm1 an1 cd1 ct1), sl1⟩) (c1 : PySem.W.codeIn K cd1 "exchanged" = true) (k1 : PySem.W.keepIn K (.ref f1) = true)
    (a2 : PySem.W.nsIn K mainGlobals "may_exchange" = some (some (.ref f2))) (l2 : K.lookup f2 = some ⟨oc2, od2, .func (PySem.W.fnOf "may_exchange" "may_exchange" (defArgs s_may_exchange) (defBody s_may_exchange) (defScope s_may_exchange) .none kV2 dc2 pm2 an2 cd2 ct2), sl2⟩) (c2 : PySem.W.codeIn K cd2 "may_exchange" = true) (k2 : PySem.W.keepIn K (.ref f2) = true)
    (a3 : PySem.W.nsIn K mainGlobals "_law_at" = some (some (.ref f3))) (l3 : K.lookup f3 = some ⟨oc3, od3, .func (PySem.W.fnOf "_law_at" "_law_at" (defArgs s_law_at) (defBody s_law_at) (defScope s_law_at) .none kV3 dc3 pm3 an3 cd3 ct3), sl3⟩) (c3 : PySem.W.codeIn K cd3 "_law_at" = true) (k3 : PySem.W.keepIn K (.ref f3) = true)
    (a4 : PySem.W.nsIn K mainGlobals "_law_draw" = some (some (.ref f4))) (l4 : K.lookup f4 = some ⟨oc4, od4, .func (PySem.W.fnOf "_law_draw" "_law_draw" (defArgs s_law_draw) (defBody s_law_draw) (defScope s_law_draw) .none kV4 dc4 pm4 an4 cd4 ct4), sl4⟩) (c4 : PySem.W.codeIn K cd4 "_law_draw" = true) (k4 : PySem.W.keepIn K (.ref f4) = true)
    (a5 : PySem.W.nsIn K mainGlobals "_law_whole" = some (some (.ref f5))) (l5 : K.lookup f5 = some ⟨oc5, od5, .func (PySem.W.fnOf "_law_whole" "_law_whole" (defArgs s_law_whole) (defBody s_law_whole) (defScope s_law_whole) .none kV5 dc5 pm5 an5 cd5 ct5), sl5⟩) (c5 : PySem.W.codeIn K cd5 "_law_whole" = true) (k5 : PySem.W.keepIn K (.ref f5) = true)
    (a6 : PySem.W.nsIn K mainGlobals "_law_gcd" = some (some (.ref f6))) (l6 : K.lookup f6 = some ⟨oc6, od6, .func (PySem.W.fnOf "_law_gcd" "_law_gcd" (defArgs s_law_gcd) (defBody s_law_gcd) (defScope s_law_gcd) .none kV6 dc6 pm6 an6 cd6 ct6), sl6⟩) (c6 : PySem.W.codeIn K cd6 "_law_gcd" = true) (k6 : PySem.W.keepIn K (.ref f6) = true)
    (a7 : PySem.W.nsIn K mainGlobals "_law_step" = some (some (.ref f7))) (l7 : K.lookup f7 = some ⟨oc7, od7, .func (PySem.W.fnOf "_law_step" "_law_step" (defArgs s_law_step) (defBody s_law_step) (defScope s_law_step) .none kV7 dc7 pm7 an7 cd7 ct7), sl7⟩) (c7 : PySem.W.codeIn K cd7 "_law_step" = true) (k7 : PySem.W.keepIn K (.ref f7) = true)
    (a8 : PySem.W.nsIn K mainGlobals "_law_num" = some (some (.ref f8))) (l8 : K.lookup f8 = some ⟨oc8, od8, .func (PySem.W.fnOf "_law_num" "_law_num" (defArgs s_law_num) (defBody s_law_num) (defScope s_law_num) .none kV8 dc8 pm8 an8 cd8 ct8), sl8⟩) (c8 : PySem.W.codeIn K cd8 "_law_num" = true) (k8 : PySem.W.keepIn K (.ref f8) = true)
    (a9 : PySem.W.nsIn K mainGlobals "_law_own" = some (some (.ref f9))) (l9 : K.lookup f9 = some ⟨oc9, od9, .func (PySem.W.fnOf "_law_own" "_law_own" (defArgs s_law_own) (defBody s_law_own) (defScope s_law_own) .none kV9 dc9 pm9 an9 cd9 ct9), sl9⟩) (c9 : PySem.W.codeIn K cd9 "_law_own" = true) (k9 : PySem.W.keepIn K (.ref f9) = true)
    (a10 : PySem.W.nsIn K mainGlobals "_law_product" = some (some (.ref f10))) (l10 : K.lookup f10 = some ⟨oc10, od10, .func (PySem.W.fnOf "_law_product" "_law_product" (defArgs s_law_product) (defBody s_law_product) (defScope s_law_product) .none kV10 dc10 pm10 an10 cd10 ct10), sl10⟩) (c10 : PySem.W.codeIn K cd10 "_law_product" = true) (k10 : PySem.W.keepIn K (.ref f10) = true)
    (a11 : PySem.W.nsIn K mainGlobals "_law_chain" = some (some (.ref f11))) (l11 : K.lookup f11 = some ⟨oc11, od11, .func (PySem.W.fnOf "_law_chain" "_law_chain" (defArgs s_law_chain) (defBody s_law_chain) (defScope s_law_chain) .none kV11 dc11 pm11 an11 cd11 ct11), sl11⟩) (c11 : PySem.W.codeIn K cd11 "_law_chain" = true) (k11 : PySem.W.keepIn K (.ref f11) = true)
    (a12 : PySem.W.nsIn K mainGlobals "_law_same_step" = some (some (.ref f12))) (l12 : K.lookup f12 = some ⟨oc12, od12, .func (PySem.W.fnOf "_law_same_step" "_law_same_step" (defArgs s_law_same_step) (defBody s_law_same_step) (defScope s_law_same_step) .none kV12 dc12 pm12 an12 cd12 ct12), sl12⟩) (c12 : PySem.W.codeIn K cd12 "_law_same_step" = true) (k12 : PySem.W.keepIn K (.ref f12) = true)
    (a13 : PySem.W.nsIn K mainGlobals "_law_same_chain" = some (some (.ref f13))) (l13 : K.lookup f13 = some ⟨oc13, od13, .func (PySem.W.fnOf "_law_same_chain" "_law_same_chain" (defArgs s_law_same_chain) (defBody s_law_same_chain) (defScope s_law_same_chain) .none kV13 dc13 pm13 an13 cd13 ct13), sl13⟩) (c13 : PySem.W.codeIn K cd13 "_law_same_chain" = true) (k13 : PySem.W.keepIn K (.ref f13) = true)
    (a14 : PySem.W.nsIn K mainGlobals "_law_refused" = some (some (.ref f14))) (l14 : K.lookup f14 = some ⟨oc14, od14, .func (PySem.W.fnOf "_law_refused" "_law_refused" (defArgs s_law_refused) (defBody s_law_refused) (defScope s_law_refused) .none kV14 dc14 pm14 an14 cd14 ct14), sl14⟩) (c14 : PySem.W.codeIn K cd14 "_law_refused" = true) (k14 : PySem.W.keepIn K (.ref f14) = true)
    (a15 : PySem.W.nsIn K mainGlobals "law" = some (some (.ref f15))) (l15 : K.lookup f15 = some ⟨oc15, od15, .func (PySem.W.fnOf "law" "law" (defArgs s_law) (defBody s_law) (defScope s_law) .none kV15 dc15 pm15 an15 cd15 ct15), sl15⟩) (c15 : PySem.W.codeIn K cd15 "law" = true) (k15 : PySem.W.keepIn K (.ref f15) = true)
    (z0 : PySem.W.nsIn K mainGlobals "list" = some none)
    (z1 : PySem.W.nsIn K mainGlobals "len" = some none)
    (z2 : PySem.W.nsIn K mainGlobals "isinstance" = some none)
    (z3 : PySem.W.nsIn K mainGlobals "int" = some none)
    (z4 : PySem.W.nsIn K mainGlobals "bool" = some none)
    (z5 : PySem.W.nsIn K mainGlobals "range" = some none)
    (z6 : PySem.W.nsIn K mainGlobals "min" = some none)
    (z7 : PySem.W.nsIn K mainGlobals "tuple" = some none)
    (z8 : PySem.W.nsIn K mainGlobals "str" = some none)
    (z9 : PySem.W.nsIn K mainGlobals "ValueError" = some none) :
    ∃ fd : FuncData, (∀ (s : Shared) (v : Value), BindsTo s fd ⟨[v], []⟩ [("_law_script", v)]) ∧ ∀ base : Heap, K.In base → base.Ns mainGlobals mg → FnOk l.prog w K mg base CX0 5 fa fd ["_law_script"] (sp_law K) := by
  have e := hfa.symm.trans (PySem.W.mg_of X G a15)
  cases e
  have eC_NoPlace : clsAt K "NoPlace" = A_NoPlace := clsAt_eq aC_NoPlace
  have eC_Refused : clsAt K "Refused" = A_Refused := clsAt_eq aC_Refused
  have eC_BadStep : clsAt K "BadStep" = A_BadStep := clsAt_eq aC_BadStep
  have eC_TooLong : clsAt K "TooLong" = A_TooLong := clsAt_eq aC_TooLong
  have eC_BadPrice : clsAt K "BadPrice" = A_BadPrice := clsAt_eq aC_BadPrice
  have eC_TooMany : clsAt K "TooMany" = A_TooMany := clsAt_eq aC_TooMany
  have eC_NoEdition : clsAt K "NoEdition" = A_NoEdition := clsAt_eq aC_NoEdition
  have eC_NoSale : clsAt K "NoSale" = A_NoSale := clsAt_eq aC_NoSale
  have T_NoPlace : Txt_NoPlace K mg := by
    refine ⟨?_, ?_, ?_, ?_, ?_, ?_, ?_, ?_, ?_, ?_, ?_, ?_, ?_, ?_, ?_, ?_, ?_, ?_, ?_, ?_⟩
    · rw [eC_NoPlace]; exact PySem.W.mg_of X G aC_NoPlace
    · rw [eC_NoPlace]; exact ⟨x_NoPlace_ga, x_NoPlace_gn, x_NoPlace_hb, x_NoPlace_hd, x_NoPlace_ha, x_NoPlace_hn, x_NoPlace_htk, x_NoPlace_hm⟩
    · rw [eC_NoPlace]; exact x_NoPlace_q
    · rw [eC_NoPlace, eC_Refused]; exact x_NoPlace_m_Refused
    · rw [eC_NoPlace, eC_Refused]; exact x_NoPlace_i_Refused
    · rw [eC_NoPlace, eC_BadStep]; exact x_NoPlace_m_BadStep
    · rw [eC_NoPlace, eC_BadStep]; exact x_NoPlace_i_BadStep
    · rw [eC_NoPlace, eC_TooLong]; exact x_NoPlace_m_TooLong
    · rw [eC_NoPlace, eC_TooLong]; exact x_NoPlace_i_TooLong
    · rw [eC_NoPlace, eC_BadPrice]; exact x_NoPlace_m_BadPrice
    · rw [eC_NoPlace, eC_BadPrice]; exact x_NoPlace_i_BadPrice
    · rw [eC_NoPlace, eC_TooMany]; exact x_NoPlace_m_TooMany
    · rw [eC_NoPlace, eC_TooMany]; exact x_NoPlace_i_TooMany
    · rw [eC_NoPlace, eC_NoEdition]; exact x_NoPlace_m_NoEdition
    · rw [eC_NoPlace, eC_NoEdition]; exact x_NoPlace_i_NoEdition
    · rw [eC_NoPlace, eC_NoSale]; exact x_NoPlace_m_NoSale
    · rw [eC_NoPlace, eC_NoSale]; exact x_NoPlace_i_NoSale
    · rw [eC_NoPlace]; exact x_NoPlace_m_NoPlace
    · rw [eC_NoPlace]; exact x_NoPlace_i_NoPlace
    · rw [eC_NoPlace]; exact x_NoPlace_iv
  have T_Refused : Txt_Refused K mg := by
    refine ⟨?_⟩
    · rw [eC_Refused]; exact PySem.W.mg_of X G aC_Refused
  have T_BadStep : Txt_BadStep K mg := by
    refine ⟨?_⟩
    · rw [eC_BadStep]; exact PySem.W.mg_of X G aC_BadStep
  have T_TooLong : Txt_TooLong K mg := by
    refine ⟨?_⟩
    · rw [eC_TooLong]; exact PySem.W.mg_of X G aC_TooLong
  have T_BadPrice : Txt_BadPrice K mg := by
    refine ⟨?_, ?_, ?_, ?_, ?_, ?_, ?_, ?_, ?_, ?_, ?_, ?_, ?_, ?_, ?_, ?_, ?_, ?_, ?_, ?_⟩
    · rw [eC_BadPrice]; exact PySem.W.mg_of X G aC_BadPrice
    · rw [eC_BadPrice]; exact ⟨x_BadPrice_ga, x_BadPrice_gn, x_BadPrice_hb, x_BadPrice_hd, x_BadPrice_ha, x_BadPrice_hn, x_BadPrice_htk, x_BadPrice_hm⟩
    · rw [eC_BadPrice]; exact x_BadPrice_q
    · rw [eC_BadPrice, eC_Refused]; exact x_BadPrice_m_Refused
    · rw [eC_BadPrice, eC_Refused]; exact x_BadPrice_i_Refused
    · rw [eC_BadPrice, eC_BadStep]; exact x_BadPrice_m_BadStep
    · rw [eC_BadPrice, eC_BadStep]; exact x_BadPrice_i_BadStep
    · rw [eC_BadPrice, eC_TooLong]; exact x_BadPrice_m_TooLong
    · rw [eC_BadPrice, eC_TooLong]; exact x_BadPrice_i_TooLong
    · rw [eC_BadPrice]; exact x_BadPrice_m_BadPrice
    · rw [eC_BadPrice]; exact x_BadPrice_i_BadPrice
    · rw [eC_BadPrice, eC_TooMany]; exact x_BadPrice_m_TooMany
    · rw [eC_BadPrice, eC_TooMany]; exact x_BadPrice_i_TooMany
    · rw [eC_BadPrice, eC_NoEdition]; exact x_BadPrice_m_NoEdition
    · rw [eC_BadPrice, eC_NoEdition]; exact x_BadPrice_i_NoEdition
    · rw [eC_BadPrice, eC_NoSale]; exact x_BadPrice_m_NoSale
    · rw [eC_BadPrice, eC_NoSale]; exact x_BadPrice_i_NoSale
    · rw [eC_BadPrice, eC_NoPlace]; exact x_BadPrice_m_NoPlace
    · rw [eC_BadPrice, eC_NoPlace]; exact x_BadPrice_i_NoPlace
    · rw [eC_BadPrice]; exact x_BadPrice_iv
  have T_TooMany : Txt_TooMany K mg := by
    refine ⟨?_⟩
    · rw [eC_TooMany]; exact PySem.W.mg_of X G aC_TooMany
  have T_NoEdition : Txt_NoEdition K mg := by
    refine ⟨?_⟩
    · rw [eC_NoEdition]; exact PySem.W.mg_of X G aC_NoEdition
  have T_NoSale : Txt_NoSale K mg := by
    refine ⟨?_⟩
    · rw [eC_NoSale]; exact PySem.W.mg_of X G aC_NoSale
  have F0 := fun_mk (st := s_alike) l0 c0 k0
  have b0 := F0.binds (ps := ["one", "other"]) fun _ _ _ _ _ _ us hl => match us, hl with | [_, _], _ => rfl
  have F1 := fun_mk (st := s_exchanged) l1 c1 k1
  have b1 := F1.binds (ps := ["chain", "k"]) fun _ _ _ _ _ _ us hl => match us, hl with | [_, _], _ => rfl
  have F2 := fun_mk (st := s_may_exchange) l2 c2 k2
  have b2 := F2.binds (ps := ["chain", "k"]) fun _ _ _ _ _ _ us hl => match us, hl with | [_, _], _ => rfl
  have F3 := fun_mk (st := s_law_at) l3 c3 k3
  have b3 := F3.binds (ps := ["_law_script", "_law_k"]) fun _ _ _ _ _ _ us hl => match us, hl with | [_, _], _ => rfl
  have F4 := fun_mk (st := s_law_draw) l4 c4 k4
  have b4 := F4.binds (ps := ["_law_script", "_law_k"]) fun _ _ _ _ _ _ us hl => match us, hl with | [_, _], _ => rfl
  have F5 := fun_mk (st := s_law_whole) l5 c5 k5
  have b5 := F5.binds (ps := ["_law_found"]) fun _ _ _ _ _ _ us hl => match us, hl with | [_], _ => rfl
  have F6 := fun_mk (st := s_law_gcd) l6 c6 k6
  have b6 := F6.binds (ps := ["_law_one", "_law_other"]) fun _ _ _ _ _ _ us hl => match us, hl with | [_, _], _ => rfl
  have F7 := fun_mk (st := s_law_step) l7 c7 k7
  have b7 := F7.binds (ps := ["_law_cell", "_law_size"]) fun _ _ _ _ _ _ us hl => match us, hl with | [_, _], _ => rfl
  have F8 := fun_mk (st := s_law_num) l8 c8 k8
  have b8 := F8.binds (ps := ["_law_step_here"]) fun _ _ _ _ _ _ us hl => match us, hl with | [_], _ => rfl
  have F9 := fun_mk (st := s_law_own) l9 c9 k9
  have b9 := F9.binds (ps := ["_law_step_here"]) fun _ _ _ _ _ _ us hl => match us, hl with | [_], _ => rfl
  have F10 := fun_mk (st := s_law_product) l10 c10 k10
  have b10 := F10.binds (ps := ["_law_steps"]) fun _ _ _ _ _ _ us hl => match us, hl with | [_], _ => rfl
  have F11 := fun_mk (st := s_law_chain) l11 c11 k11
  have b11 := F11.binds (ps := ["_law_script", "_law_base", "_law_many", "_law_limit"]) fun _ _ _ _ _ _ us hl => match us, hl with | [_, _, _, _], _ => rfl
  have F12 := fun_mk (st := s_law_same_step) l12 c12 k12
  have b12 := F12.binds (ps := ["_law_found", "_law_step_here"]) fun _ _ _ _ _ _ us hl => match us, hl with | [_, _], _ => rfl
  have F13 := fun_mk (st := s_law_same_chain) l13 c13 k13
  have b13 := F13.binds (ps := ["_law_found", "_law_steps"]) fun _ _ _ _ _ _ us hl => match us, hl with | [_, _], _ => rfl
  have F14 := fun_mk (st := s_law_refused) l14 c14 k14
  have b14 := F14.binds (ps := ["_law_steps", "_law_place", "_law_door"]) fun _ _ _ _ _ _ us hl => match us, hl with | [_, _, _], _ => rfl
  have F15 := fun_mk (st := s_law) l15 c15 k15
  have b15 := F15.binds (ps := ["_law_script"]) fun _ _ _ _ _ _ us hl => match us, hl with | [_], _ => rfl
  have z_list := PySem.W.mg_none_of X G z0
  have z_len := PySem.W.mg_none_of X G z1
  have z_isinstance := PySem.W.mg_none_of X G z2
  have z_int := PySem.W.mg_none_of X G z3
  have z_bool := PySem.W.mg_none_of X G z4
  have z_range := PySem.W.mg_none_of X G z5
  have z_min := PySem.W.mg_none_of X G z6
  have z_tuple := PySem.W.mg_none_of X G z7
  have z_str := PySem.W.mg_none_of X G z8
  have z_ValueError := PySem.W.mg_none_of X G z9
  refine ⟨PySem.W.fnOf "law" "law" (defArgs s_law) (defBody s_law) (defScope s_law) .none kV15 dc15 pm15 an15 cd15 ct15, fun s v => .of_eq rfl, fun base _ _ => ?_⟩
  have C_alike := cal_alike (P := l.prog) (w := w) (base := base) F0 b0 (PySem.W.mg_of X G a0)
  have C_exchanged := cal_exchanged (P := l.prog) (w := w) (base := base) F1 b1 (PySem.W.mg_of X G a1) T_NoPlace z_list z_len
  have C_law_at := cal_law_at (P := l.prog) (w := w) (base := base) F3 b3 (PySem.W.mg_of X G a3) z_len
  have C_law_whole := cal_law_whole (P := l.prog) (w := w) (base := base) F5 b5 (PySem.W.mg_of X G a5) z_isinstance z_int z_bool
  have C_law_gcd := cal_law_gcd (P := l.prog) (w := w) (base := base) F6 b6 (PySem.W.mg_of X G a6)
  have C_law_step := cal_law_step (P := l.prog) (w := w) (base := base) F7 b7 (PySem.W.mg_of X G a7)
  have C_law_num := cal_law_num (P := l.prog) (w := w) (base := base) F8 b8 (PySem.W.mg_of X G a8)
  have C_may_exchange := cal_may_exchange (P := l.prog) (w := w) (base := base) F2 b2 (PySem.W.mg_of X G a2) C_alike C_exchanged
  have C_law_draw := cal_law_draw (P := l.prog) (w := w) (base := base) F4 b4 (PySem.W.mg_of X G a4) C_law_at
  have C_law_own := cal_law_own (P := l.prog) (w := w) (base := base) F9 b9 (PySem.W.mg_of X G a9) C_law_gcd C_law_num
  have C_law_same_step := cal_law_same_step (P := l.prog) (w := w) (base := base) F12 b12 (PySem.W.mg_of X G a12) z_range z_isinstance z_tuple z_len z_str C_law_whole
  have C_law_product := cal_law_product (P := l.prog) (w := w) (base := base) F10 b10 (PySem.W.mg_of X G a10) C_law_own
  have C_law_same_chain := cal_law_same_chain (P := l.prog) (w := w) (base := base) F13 b13 (PySem.W.mg_of X G a13) z_range z_len z_isinstance z_list C_law_same_step
  have C_law_refused := cal_law_refused (P := l.prog) (w := w) (base := base) F14 b14 (PySem.W.mg_of X G a14) T_Refused T_BadStep T_TooLong T_BadPrice T_TooMany T_NoEdition T_NoSale T_NoPlace z_list z_isinstance z_ValueError C_exchanged C_may_exchange
  have C_law_chain := cal_law_chain (P := l.prog) (w := w) (base := base) F11 b11 (PySem.W.mg_of X G a11) z_range z_min C_law_draw C_law_step C_law_at C_law_product
  exact ok_law F15 z_list z_range z_len C_law_chain C_exchanged C_law_draw C_law_same_chain C_law_refused
theorem walk {l : PySem.W.OpenLaw} {q : Program} {loose : List Str} {XP : (Str → Option Value) → Heap → Prop} {YP : World → Heap → Prop} {d : DefRec} {K : Params → PySem.W.Frag} (hn : l.most = some 63) (hdf : d.params.defaults = [])
    (hY : ∀ (w : World) (h : Heap), YP w h → (K w.params).In h)
    (F : ∀ (w : World) (mg : Str → Option Value) (fa : Addr) (h : Heap), (K w.params).In h → h.Ns mainGlobals mg → mg d.name = some (.ref fa) →
      ∃ fd : FuncData, (∀ (s : Shared) (u : Value), BindsTo s fd ⟨[u], []⟩ [("_law_script", u)]) ∧ ∀ base : Heap, (K w.params).In base → base.Ns mainGlobals mg → FnOk l.prog w (K w.params) mg base CX0 5 fa fd ["_law_script"] (sp_law (K w.params))) :
    PySem.W.WalkO q loose XP YP l.row.toRowW d [] (fun f vs => PySem.call f vs) :=
  L2.walk_ofB (n := 63) (k := 5) (x := "_law_script") (CX := fun _ => CX0) (sp := fun w => sp_law (K w.params)) hn (by decide) hdf ⟨rfl, by decide, by decide⟩ hY F (fun _ _ a ns hl hb _ hS => ⟨a, ns, rfl, hS, hl, hb, fun _ => rfl⟩) fun _ _ _ _ _ z => z
end My
open PySem PySem.W PyProof.Rows
set_option maxRecDepth 100000 in
set_option maxHeartbeats 0 in
theorem PySem.Challenge.cw_roundprice_k19_exchanged_holds : PySem.Challenge.rw_roundprice_k19_exchanged.Holds := by
  w_on; o_law; k_head; (case hw => w_witness2)
  k_fill
  refine My.walk (l := PySem.Challenge.rw_roundprice_k19_exchanged) rfl rfl (fun w h Y => PySem.W.kIn_of Y) ?F
  case F =>
    intro w mg fa h KX G hmg
    refine' My.all_mk KX G hmg ?aC_NoPlace ?aC_Refused ?aC_BadStep ?aC_TooLong ?aC_BadPrice ?aC_TooMany ?aC_NoEdition ?aC_NoSale ?x_NoPlace_ga ?x_NoPlace_gn ?x_NoPlace_hb ?x_NoPlace_hd ?x_NoPlace_ha ?x_NoPlace_hn ?x_NoPlace_htk ?x_NoPlace_hm ?x_NoPlace_q ?x_NoPlace_m_Refused ?x_NoPlace_i_Refused ?x_NoPlace_m_BadStep ?x_NoPlace_i_BadStep ?x_NoPlace_m_TooLong ?x_NoPlace_i_TooLong ?x_NoPlace_m_BadPrice ?x_NoPlace_i_BadPrice ?x_NoPlace_m_TooMany ?x_NoPlace_i_TooMany ?x_NoPlace_m_NoEdition ?x_NoPlace_i_NoEdition ?x_NoPlace_m_NoSale ?x_NoPlace_i_NoSale ?x_NoPlace_m_NoPlace ?x_NoPlace_i_NoPlace ?x_NoPlace_iv ?x_BadPrice_ga ?x_BadPrice_gn ?x_BadPrice_hb ?x_BadPrice_hd ?x_BadPrice_ha ?x_BadPrice_hn ?x_BadPrice_htk ?x_BadPrice_hm ?x_BadPrice_q ?x_BadPrice_m_Refused ?x_BadPrice_i_Refused ?x_BadPrice_m_BadStep ?x_BadPrice_i_BadStep ?x_BadPrice_m_TooLong ?x_BadPrice_i_TooLong ?x_BadPrice_m_BadPrice ?x_BadPrice_i_BadPrice ?x_BadPrice_m_TooMany ?x_BadPrice_i_TooMany ?x_BadPrice_m_NoEdition ?x_BadPrice_i_NoEdition ?x_BadPrice_m_NoSale ?x_BadPrice_i_NoSale ?x_BadPrice_m_NoPlace ?x_BadPrice_i_NoPlace ?x_BadPrice_iv ?a0 ?l0 ?c0 ?k0 ?a1 ?l1 ?c1 ?k1 ?a2 ?l2 ?c2 ?k2 ?a3 ?l3 ?c3 ?k3 ?a4 ?l4 ?c4 ?k4 ?a5 ?l5 ?c5 ?k5 ?a6 ?l6 ?c6 ?k6 ?a7 ?l7 ?c7 ?k7 ?a8 ?l8 ?c8 ?k8 ?a9 ?l9 ?c9 ?k9 ?a10 ?l10 ?c10 ?k10 ?a11 ?l11 ?c11 ?k11 ?a12 ?l12 ?c12 ?k12 ?a13 ?l13 ?c13 ?k13 ?a14 ?l14 ?c14 ?k14 ?a15 ?l15 ?c15 ?k15 ?z0 ?z1 ?z2 ?z3 ?z4 ?z5 ?z6 ?z7 ?z8 ?z9
    (case aC_NoPlace => k_is)
    (case aC_Refused => k_is)
    (case aC_BadStep => k_is)
    (case aC_TooLong => k_is)
    (case aC_BadPrice => k_is)
    (case aC_TooMany => k_is)
    (case aC_NoEdition => k_is)
    (case aC_NoSale => k_is)
    (case x_NoPlace_ga => first | k_is | k_exc | kernel_rfl)
    (case x_NoPlace_gn => first | k_is | k_exc | kernel_rfl)
    (case x_NoPlace_hb => first | k_is | k_exc | kernel_rfl)
    (case x_NoPlace_hd => first | k_is | k_exc | kernel_rfl)
    (case x_NoPlace_ha => first | k_is | k_exc | kernel_rfl)
    (case x_NoPlace_hn => first | k_is | k_exc | kernel_rfl)
    (case x_NoPlace_htk => first | k_is | k_exc | kernel_rfl)
    (case x_NoPlace_hm => first | k_is | k_exc | kernel_rfl)
    (case x_NoPlace_q => first | k_is | k_exc | kernel_rfl)
    (case x_NoPlace_m_Refused => first | k_is | k_exc | kernel_rfl)
    (case x_NoPlace_i_Refused => first | k_is | k_exc | kernel_rfl)
    (case x_NoPlace_m_BadStep => first | k_is | k_exc | kernel_rfl)
    (case x_NoPlace_i_BadStep => first | k_is | k_exc | kernel_rfl)
    (case x_NoPlace_m_TooLong => first | k_is | k_exc | kernel_rfl)
    (case x_NoPlace_i_TooLong => first | k_is | k_exc | kernel_rfl)
    (case x_NoPlace_m_BadPrice => first | k_is | k_exc | kernel_rfl)
    (case x_NoPlace_i_BadPrice => first | k_is | k_exc | kernel_rfl)
    (case x_NoPlace_m_TooMany => first | k_is | k_exc | kernel_rfl)
    (case x_NoPlace_i_TooMany => first | k_is | k_exc | kernel_rfl)
    (case x_NoPlace_m_NoEdition => first | k_is | k_exc | kernel_rfl)
    (case x_NoPlace_i_NoEdition => first | k_is | k_exc | kernel_rfl)
    (case x_NoPlace_m_NoSale => first | k_is | k_exc | kernel_rfl)
    (case x_NoPlace_i_NoSale => first | k_is | k_exc | kernel_rfl)
    (case x_NoPlace_m_NoPlace => first | k_is | k_exc | kernel_rfl)
    (case x_NoPlace_i_NoPlace => first | k_is | k_exc | kernel_rfl)
    (case x_NoPlace_iv => first | k_is | k_exc | kernel_rfl)
    (case x_BadPrice_ga => first | k_is | k_exc | kernel_rfl)
    (case x_BadPrice_gn => first | k_is | k_exc | kernel_rfl)
    (case x_BadPrice_hb => first | k_is | k_exc | kernel_rfl)
    (case x_BadPrice_hd => first | k_is | k_exc | kernel_rfl)
    (case x_BadPrice_ha => first | k_is | k_exc | kernel_rfl)
    (case x_BadPrice_hn => first | k_is | k_exc | kernel_rfl)
    (case x_BadPrice_htk => first | k_is | k_exc | kernel_rfl)
    (case x_BadPrice_hm => first | k_is | k_exc | kernel_rfl)
    (case x_BadPrice_q => first | k_is | k_exc | kernel_rfl)
    (case x_BadPrice_m_Refused => first | k_is | k_exc | kernel_rfl)
    (case x_BadPrice_i_Refused => first | k_is | k_exc | kernel_rfl)
    (case x_BadPrice_m_BadStep => first | k_is | k_exc | kernel_rfl)
    (case x_BadPrice_i_BadStep => first | k_is | k_exc | kernel_rfl)
    (case x_BadPrice_m_TooLong => first | k_is | k_exc | kernel_rfl)
    (case x_BadPrice_i_TooLong => first | k_is | k_exc | kernel_rfl)
    (case x_BadPrice_m_BadPrice => first | k_is | k_exc | kernel_rfl)
    (case x_BadPrice_i_BadPrice => first | k_is | k_exc | kernel_rfl)
    (case x_BadPrice_m_TooMany => first | k_is | k_exc | kernel_rfl)
    (case x_BadPrice_i_TooMany => first | k_is | k_exc | kernel_rfl)
    (case x_BadPrice_m_NoEdition => first | k_is | k_exc | kernel_rfl)
    (case x_BadPrice_i_NoEdition => first | k_is | k_exc | kernel_rfl)
    (case x_BadPrice_m_NoSale => first | k_is | k_exc | kernel_rfl)
    (case x_BadPrice_i_NoSale => first | k_is | k_exc | kernel_rfl)
    (case x_BadPrice_m_NoPlace => first | k_is | k_exc | kernel_rfl)
    (case x_BadPrice_i_NoPlace => first | k_is | k_exc | kernel_rfl)
    (case x_BadPrice_iv => first | k_is | k_exc | kernel_rfl)
    (case a0 => k_is)
    (case l0 => k_is)
    (case c0 => k_is)
    (case k0 => k_is)
    (case a1 => k_is)
    (case l1 => k_is)
    (case c1 => k_is)
    (case k1 => k_is)
    (case a2 => k_is)
    (case l2 => k_is)
    (case c2 => k_is)
    (case k2 => k_is)
    (case a3 => k_is)
    (case l3 => k_is)
    (case c3 => k_is)
    (case k3 => k_is)
    (case a4 => k_is)
    (case l4 => k_is)
    (case c4 => k_is)
    (case k4 => k_is)
    (case a5 => k_is)
    (case l5 => k_is)
    (case c5 => k_is)
    (case k5 => k_is)
    (case a6 => k_is)
    (case l6 => k_is)
    (case c6 => k_is)
    (case k6 => k_is)
    (case a7 => k_is)
    (case l7 => k_is)
    (case c7 => k_is)
    (case k7 => k_is)
    (case a8 => k_is)
    (case l8 => k_is)
    (case c8 => k_is)
    (case k8 => k_is)
    (case a9 => k_is)
    (case l9 => k_is)
    (case c9 => k_is)
    (case k9 => k_is)
    (case a10 => k_is)
    (case l10 => k_is)
    (case c10 => k_is)
    (case k10 => k_is)
    (case a11 => k_is)
    (case l11 => k_is)
    (case c11 => k_is)
    (case k11 => k_is)
    (case a12 => k_is)
    (case l12 => k_is)
    (case c12 => k_is)
    (case k12 => k_is)
    (case a13 => k_is)
    (case l13 => k_is)
    (case c13 => k_is)
    (case k13 => k_is)
    (case a14 => k_is)
    (case l14 => k_is)
    (case c14 => k_is)
    (case k14 => k_is)
    (case a15 => k_is)
    (case l15 => k_is)
    (case c15 => k_is)
    (case k15 => k_is)
    (case z0 => k_is)
    (case z1 => k_is)
    (case z2 => k_is)
    (case z3 => k_is)
    (case z4 => k_is)
    (case z5 => k_is)
    (case z6 => k_is)
    (case z7 => k_is)
    (case z8 => k_is)
    (case z9 => k_is)
#print axioms PySem.Challenge.cw_roundprice_k19_exchanged_holds
